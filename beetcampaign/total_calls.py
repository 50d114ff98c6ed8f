"""The calls that tell how the works stand as a whole."""


def tell_income(works):
    paid = sum([grower.paid for grower in works.growers])
    due = sum([grower.due for grower in works.growers])
    return [works.silo.income, paid, due]


def tell_today(works):
    return [works.day, works.this_week()]


def tell_sums(works):
    came = sum([grower.sugar for grower in works.growers])
    in_clamps = sum([clamp.sugar for clamp in works.clamps])
    totals = works.totals
    before_juice = [in_clamps, totals.lost, works.hopper, works.tower.sugar_inside(), totals.pulp]
    in_juice = [works.raw.sugar, totals.limed_away, works.thin.sugar, works.green.sugar, works.molasses.sugar]
    return [came] + before_juice + in_juice + [works.silo.stored, works.silo.sold]


def tell_others(works):
    return [works.totals.others, works.raw.others, works.totals.cake, works.thin.others, works.green.others,
            works.molasses.others]


def tell_state(works):
    return [len(works.weeks), len(works.growers), len(works.fields), len(works.clamps), len(works.tower.beets),
            len(works.filters.cakes), len(works.strikes), len(works.sales)]


# Behind each call's number: what answers it, how many whole numbers it has, whether a row follows.
TOTAL_CALLS = {
    67: (tell_income, 0, False),
    68: (tell_today, 0, False),
    69: (tell_sums, 0, False),
    70: (tell_others, 0, False),
    71: (tell_state, 0, False),
}
