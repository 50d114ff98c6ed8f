"""A beet sugar campaign, told in whole numbers: see beetcampaign.works."""
