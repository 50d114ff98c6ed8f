"""The calls that speak of days and clamps."""

from beetcampaign.clamps import best_cover, best_order
from beetcampaign.refusals import ABSENT, ALREADY, FULL, IMPOSSIBLE, WRONG

MOST_WARMTH = 100
MOST_DAYS = 30
LAST_DAY = 400
CLAMPS_IN_ORDER = 5


def days_fit(days):
    return len(days) <= MOST_DAYS and all([warmth <= MOST_WARMTH for warmth in days])


def pass_days(works, days):
    if not days_fit(days):
        return [WRONG]
    if works.day + len(days) > LAST_DAY:
        return [FULL]
    lost = sum([works.pass_day(warmth) for warmth in days])
    return [lost, works.day]


def pass_one_day(works, t):
    return pass_days(works, [t])


def cover(works, k):
    if k >= len(works.clamps):
        return [ABSENT]
    clamp = works.clamps[k]
    if clamp.covered:
        return [ALREADY]
    clamp.covered = True
    return [0]


def uncover(works, k):
    if k >= len(works.clamps):
        return [ABSENT]
    clamp = works.clamps[k]
    if not clamp.covered:
        return [ALREADY]
    clamp.covered = False
    return [0]


def tell_heap(works, k):
    if k >= len(works.clamps):
        return [ABSENT]
    clamp = works.clamps[k]
    return [clamp.sugar, clamp.beets, int(clamp.covered), int(clamp.frozen), clamp.grower]


def tell_heaps(works):
    filled = works.filled_clamps()
    return [len(filled)] + filled


def tell_loss(works, k, t):
    if k >= len(works.clamps):
        return [ABSENT]
    if t > MOST_WARMTH:
        return [WRONG]
    clamp = works.clamps[k]
    return [clamp.loss(t), clamp.loss_rate(t), int(clamp.would_freeze(t))]


def tell_when_cover(works, k, days):
    if k >= len(works.clamps):
        return [ABSENT]
    if not days_fit(days):
        return [WRONG]
    best = best_cover(works.clamps[k], days)
    return [best[0], best[1]]


def tell_order(works, days):
    if not days_fit(days):
        return [WRONG]
    first = works.filled_clamps()[:CLAMPS_IN_ORDER]
    best = best_order([works.clamps[k] for k in first], days)
    return [best[0], len(first)] + [first[place] for place in best[1]]


def haul(works, k, kg):
    if k >= len(works.clamps):
        return [ABSENT]
    if kg == 0:
        return [WRONG]
    clamp = works.clamps[k]
    if clamp.beets < kg:
        return [IMPOSSIBLE]
    sugar = clamp.haul(kg)
    works.hopper += sugar
    return [sugar, works.hopper]


def tell_frost(works):
    frozen = [k for k in works.filled_clamps() if works.clamps[k].frozen]
    return [len(frozen)] + frozen


# Behind each call's number: what answers it, how many whole numbers it has, whether a row follows.
CLAMP_CALLS = {
    17: (pass_one_day, 1, False),
    18: (pass_days, 0, True),
    19: (cover, 1, False),
    20: (uncover, 1, False),
    21: (tell_heap, 1, False),
    22: (tell_heaps, 0, False),
    23: (tell_loss, 2, False),
    24: (tell_when_cover, 1, True),
    25: (tell_order, 0, True),
    26: (haul, 2, False),
    27: (tell_frost, 0, False),
}
