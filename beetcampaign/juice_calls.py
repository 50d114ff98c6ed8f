"""The calls that speak of raw juice, lime, filters and thin juice."""

from beetcampaign.filters import Filters, best_cycle
from beetcampaign.juice import MOST_LIME, best_lime
from beetcampaign.refusals import NOTHING, WRONG

MOST_WASH = 20
MOST_LIMIT = 1000
MOST_FILTERS = 6
MOST_TICKS = 60


def told(juice):
    return [juice.purity(), juice.sugar, juice.others, juice.to_be_had()]


def set_lime(works, x):
    if x > MOST_LIME:
        return [WRONG]
    before = works.lime
    works.lime = x
    return [before]


def tell_raw(works):
    return told(works.raw)


def tell_limed(works, x):
    if x > MOST_LIME:
        return [WRONG]
    return told(works.raw.limed(x))


def tell_best_lime(works):
    best = best_lime(works.raw)
    return [best[0], best[1]]


def set_filters(works, w, limit, n):
    if w < 1 or w > MOST_WASH or limit < 1 or limit > MOST_LIMIT or n < 1 or n > MOST_FILTERS:
        return [WRONG]
    before = len(works.filters.cakes)
    works.filters = Filters(n, w, limit)
    return [before]


def run_filters(works, n):
    if n < 1 or n > MOST_TICKS:
        return [WRONG]
    if len(works.filters.cakes) == 0:
        return [NOTHING]
    runs = [works.filter_tick() for tick in range(n)]
    went = sum([run[0] for run in runs])
    sugar = sum([run[1].sugar for run in runs])
    others = sum([run[1].others for run in runs])
    return [went, sugar, others]


def tell_filters(works):
    filters = works.filters
    row = [filters.flow(), len(filters.cakes)]
    for cake, left in zip(filters.cakes, filters.washing):
        row.extend([cake, left])
    return row


def tell_best_cycle(works):
    best = best_cycle(works.filters.wash_ticks)
    return [best[0], best[1]]


def tell_thin(works):
    return told(works.thin)


def tell_green(works):
    return told(works.green)


def tell_molasses(works):
    return told(works.molasses)


# Behind each call's number: what answers it, how many whole numbers it has, whether a row follows.
JUICE_CALLS = {
    38: (set_lime, 1, False),
    39: (tell_raw, 0, False),
    40: (tell_limed, 1, False),
    41: (tell_best_lime, 0, False),
    42: (set_filters, 3, False),
    43: (run_filters, 1, False),
    44: (tell_filters, 0, False),
    45: (tell_best_cycle, 0, False),
    46: (tell_thin, 0, False),
    56: (tell_green, 0, False),
    57: (tell_molasses, 0, False),
}
