"""The calls that speak of strikes and boiling."""

from beetcampaign.juice import Juice
from beetcampaign.refusals import ABSENT, FULL, NOTHING, OCCUPIED, WRONG
from beetcampaign.strikes import Strike, order_told, spun_minutes

MOST_STRIKES = 8
MOST_MINUTES = 500
MOST_KILOGRAMS = 1000000
MOST_KEPT = 100
LAST_MINUTE = 100000000


def minutes_fit(minutes):
    return 1 <= minutes <= MOST_MINUTES


def plan_strike(works, pan, spin, kg):
    if not minutes_fit(pan) or not minutes_fit(spin) or kg < 1 or kg > MOST_KILOGRAMS:
        return [WRONG]
    if len(works.strikes) == MOST_STRIKES:
        return [FULL]
    works.strikes.append(Strike(pan, spin, kg))
    return [len(works.strikes)]


def drop_strike(works, i):
    if i >= len(works.strikes):
        return [ABSENT]
    works.strikes.pop(i)
    return [len(works.strikes)]


def tell_strikes(works):
    row = [len(works.strikes)]
    for strike in works.strikes:
        row.extend([strike.pan, strike.spin, strike.kilograms])
    return row


def tell_ends(works):
    ends = spun_minutes(works.strikes, works.pans.pan_free, works.pans.spin_free)
    return [len(ends)] + ends


def tell_soonest(works):
    order = order_told(works.strikes)
    ends = spun_minutes([works.strikes[place] for place in order], 0, 0)
    return [ends[-1] if len(ends) > 0 else 0, len(order)] + order


def sort_strikes(works):
    works.strikes = [works.strikes[place] for place in order_told(works.strikes)]
    return [len(works.strikes)]


def boil_strike(works, k):
    if k > MOST_KEPT:
        return [WRONG]
    if len(works.strikes) == 0:
        return [NOTHING]
    if works.pans.spin_free >= LAST_MINUTE:
        return [OCCUPIED]
    syrup = works.thin.part(works.strikes[0].kilograms)
    crystals = syrup.crystals(k)
    silo = works.silo
    if not silo.has_room_for(crystals):
        return [FULL]
    works.thin.draw_off(syrup)
    silo.stored += crystals
    works.green.pour(Juice(syrup.sugar - crystals, syrup.others))
    minute = works.pans.run(works.strikes.pop(0))
    return [crystals, syrup.sugar - crystals, syrup.others, minute]


def tell_times(works):
    return [works.pans.spin_free, works.pans.pan_free]


def boil_again(works, k, kg):
    if k > MOST_KEPT or kg == 0:
        return [WRONG]
    if works.green.weight() == 0:
        return [NOTHING]
    syrup = works.green.part(kg)
    crystals = syrup.crystals(k)
    works.green.draw_off(syrup)
    works.raw.pour(Juice(crystals, 0))
    works.molasses.pour(Juice(syrup.sugar - crystals, syrup.others))
    return [crystals, syrup.sugar - crystals, syrup.others]


# Behind each call's number: what answers it, how many whole numbers it has, whether a row follows.
PAN_CALLS = {
    47: (plan_strike, 3, False),
    48: (drop_strike, 1, False),
    49: (tell_strikes, 0, False),
    50: (tell_ends, 0, False),
    51: (tell_soonest, 0, False),
    52: (sort_strikes, 0, False),
    53: (boil_strike, 1, False),
    54: (tell_times, 0, False),
    55: (boil_again, 2, False),
}
