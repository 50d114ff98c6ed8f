"""The calls that speak of the tower."""

from beetcampaign.refusals import ABSENT, IMPOSSIBLE, NOTHING, OCCUPIED, WRONG
from beetcampaign.tower import MOST_CELLS, fewest_cells, steady_state

LEAST_DRAFT = 50
MOST_DRAFT = 200
MOST_MIXED = 100
MOST_SLICE = 10000
MOST_DIRT = 300
MOST_TICKS = 60
MOST_DRAWN = 10000


def set_tower(works, draft, mixed):
    if draft < LEAST_DRAFT or draft > MOST_DRAFT or mixed > MOST_MIXED:
        return [WRONG]
    tower = works.tower
    tower.draft = draft
    tower.mixed = mixed
    return [0]


def set_cells(works, n):
    if n < 1 or n > MOST_CELLS:
        return [WRONG]
    tower = works.tower
    if tower.sugar_inside() > 0:
        return [OCCUPIED]
    before = len(tower.beets)
    tower.place_cells(n)
    return [before]


def set_slice(works, a):
    if a < 1 or a > MOST_SLICE:
        return [WRONG]
    tower = works.tower
    before = tower.portion
    tower.portion = a
    return [before]


def set_dirt(works, x):
    if x > MOST_DIRT:
        return [WRONG]
    tower = works.tower
    before = tower.dirt
    tower.dirt = x
    return [before]


def run_tower(works, n):
    if n < 1 or n > MOST_TICKS:
        return [WRONG]
    if not works.tower.can_run():
        return [NOTHING]
    outs = [works.run_tick() for tick in range(n)]
    drawn = sum([out[0] for out in outs])
    pulp = sum([out[1] for out in outs])
    return [drawn, pulp, works.hopper]


def tell_cell(works, i):
    tower = works.tower
    if i >= len(tower.beets):
        return [ABSENT]
    return [tower.beets[i], tower.juice[i]]


def tell_in_tower(works):
    return [works.tower.sugar_inside(), len(works.tower.beets), works.hopper]


def tell_steady(works):
    if not works.tower.can_run():
        return [NOTHING]
    steady = steady_state(works.tower, len(works.tower.beets))
    if steady is None:
        return [IMPOSSIBLE]
    return list(steady)


def tell_fewest(works, y):
    if y > MOST_DRAWN:
        return [WRONG]
    if works.tower.portion == 0:
        return [NOTHING]
    fewest = fewest_cells(works.tower, y)
    if fewest is None:
        return [IMPOSSIBLE]
    return [fewest]


def tell_yield(works):
    totals = works.totals
    if totals.fed == 0:
        return [NOTHING]
    return [totals.drawn * 10000 // totals.fed, totals.fed, totals.drawn, totals.pulp]


# Behind each call's number: what answers it, how many whole numbers it has, whether a row follows.
TOWER_CALLS = {
    28: (set_tower, 2, False),
    29: (set_cells, 1, False),
    30: (set_slice, 1, False),
    31: (set_dirt, 1, False),
    32: (run_tower, 1, False),
    33: (tell_cell, 1, False),
    34: (tell_in_tower, 0, False),
    35: (tell_steady, 0, False),
    36: (tell_fewest, 1, False),
    37: (tell_yield, 0, False),
}
