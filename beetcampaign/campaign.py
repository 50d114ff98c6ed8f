"""What a campaign keeps from one call to the next."""

from beetcampaign.fields import tons_dug
from beetcampaign.filters import Filters
from beetcampaign.growers import price_of
from beetcampaign.juice import Juice
from beetcampaign.silo import Silo
from beetcampaign.strikes import Pans
from beetcampaign.totals import Totals
from beetcampaign.tower import Tower

DAYS_A_WEEK = 7


class Campaign:
    """The works as they stand: weeks tell how many tons can be dug in each."""

    def __init__(self, weeks):
        self.weeks = weeks
        self.day = 0
        self.price_base = 0
        self.price_step = 0
        self.bonuses = 0
        self.growers = []
        self.fields = []
        self.clamps = []
        self.hopper = 0
        self.tower = Tower()
        self.raw = Juice()
        self.lime = 0
        self.filters = Filters(0, 1, 0)
        self.thin = Juice()
        self.strikes = []
        self.pans = Pans(0, 0)
        self.green = Juice()
        self.molasses = Juice()
        self.silo = Silo()
        self.sales = []
        self.totals = Totals()

    def this_week(self):
        return self.day // DAYS_A_WEEK

    def room_in(self, week):
        if week < self.this_week():
            return 0
        return self.weeks[week] - tons_dug(self.fields, week)

    def price_for(self, held):
        return price_of(self.price_base, self.price_step, held)

    def undug_fields(self):
        return [field for field in self.fields if field.dug_week is None]

    def filled_clamps(self):
        """The numbers of the clamps that have beets."""
        return [k for k, clamp in enumerate(self.clamps) if clamp.beets > 0]

    def wanting_sales(self):
        """The numbers of the sales that are still to be filled."""
        return [o for o, sale in enumerate(self.sales) if sale.is_wanting()]

    def pass_day(self, warmth):
        """Lets a day go by over all clamps, and answers what was lost."""
        lost = sum([clamp.pass_day(warmth) for clamp in self.clamps])
        self.day += 1
        self.totals.count_loss(lost)
        return lost

    def run_tick(self):
        """A tick of the tower, fed from the hopper; answers what was drawn and what left."""
        fed = min(self.tower.portion, self.hopper)
        self.hopper -= fed
        out = self.tower.tick(fed)
        drawn = Juice(out[0], out[0] * self.tower.dirt // 1000)
        self.raw.pour(drawn)
        self.totals.count_tower(fed, drawn, out[1])
        return out

    def filter_tick(self):
        """A tick of the filters; answers how much raw juice went in, and the thin juice that came."""
        part = self.raw.part(self.filters.flow())
        limed = part.limed(self.lime)
        self.raw.draw_off(part)
        self.thin.pour(limed)
        self.totals.count_lime(part, limed)
        self.filters.tick()
        return (part.weight(), limed)
