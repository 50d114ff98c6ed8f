"""The calls that speak of growers, terms and pay."""

from beetcampaign.growers import Grower, MOST_HELD, shares
from beetcampaign.refusals import ABSENT, FULL, NOTHING, WRONG

MOST_GROWERS = 6
MOST_QUOTA = 10000000
MOST_BASE = 10000
MOST_STEP = 10
MOST_BONUS = 100000000
MOST_BONUSES = 1000000000


def set_terms(works, base, step):
    if base > MOST_BASE or step > MOST_STEP:
        return [WRONG]
    works.price_base = base
    works.price_step = step
    return [0]


def add_grower(works, quota):
    if quota > MOST_QUOTA:
        return [WRONG]
    if len(works.growers) == MOST_GROWERS:
        return [FULL]
    works.growers.append(Grower(quota))
    return [len(works.growers) - 1]


def tell_grower(works, g):
    if g >= len(works.growers):
        return [ABSENT]
    grower = works.growers[g]
    return [grower.due, grower.paid, grower.clean, grower.sugar, grower.quota_left()]


def tell_price(works, held):
    if held > MOST_HELD:
        return [WRONG]
    return [works.price_for(held)]


def pay_grower(works, g):
    if g >= len(works.growers):
        return [ABSENT]
    grower = works.growers[g]
    cents = grower.due
    if cents == 0:
        return [NOTHING]
    grower.due = 0
    grower.paid += cents
    return [cents]


def share_bonus(works, n):
    if n < 1 or n > MOST_BONUS:
        return [WRONG]
    parts = [grower.sugar for grower in works.growers]
    if sum(parts) == 0:
        return [NOTHING]
    if works.bonuses + n > MOST_BONUSES:
        return [FULL]
    works.bonuses += n
    told = shares(n, parts)
    for grower, cents in zip(works.growers, told):
        grower.due += cents
    return [len(told)] + told


# Behind each call's number: what answers it, how many whole numbers it has, whether a row follows.
GROWER_CALLS = {
    1: (set_terms, 2, False),
    2: (add_grower, 1, False),
    13: (tell_grower, 1, False),
    14: (tell_price, 1, False),
    15: (pay_grower, 1, False),
    16: (share_bonus, 1, False),
}
