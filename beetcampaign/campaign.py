"""What a campaign keeps from one call to the next."""

from beetcampaign.fields import tons_dug
from beetcampaign.growers import price_of
from beetcampaign.juice import Juice
from beetcampaign.tower import Tower

DAYS_A_WEEK = 7


class Campaign:
    """The works as they stand: weeks tell how many tons can be dug in each."""

    def __init__(self, weeks):
        self.weeks = weeks
        self.day = 0
        self.price_base = 0
        self.price_step = 0
        self.bonuses = 0
        self.growers = []
        self.fields = []
        self.clamps = []
        self.hopper = 0
        self.tower = Tower()
        self.raw = Juice()

    def this_week(self):
        return self.day // DAYS_A_WEEK

    def room_in(self, week):
        if week < self.this_week():
            return 0
        return self.weeks[week] - tons_dug(self.fields, week)

    def price_for(self, held):
        return price_of(self.price_base, self.price_step, held)

    def undug_fields(self):
        return [field for field in self.fields if field.dug_week is None]

    def filled_clamps(self):
        """The numbers of the clamps that have beets."""
        return [k for k, clamp in enumerate(self.clamps) if clamp.beets > 0]

    def pass_day(self, warmth):
        """Lets a day go by over all clamps, and answers what was lost."""
        self.day += 1
        return sum([clamp.pass_day(warmth) for clamp in self.clamps])

    def run_tick(self):
        """A tick of the tower, fed from the hopper; answers what was drawn and what left."""
        fed = min(self.tower.portion, self.hopper)
        self.hopper -= fed
        out = self.tower.tick(fed)
        self.raw.pour(out[0], out[0] * self.tower.dirt // 1000)
        return out
