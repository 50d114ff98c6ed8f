"""The calls that speak of fields, plans and digging."""

from beetcampaign.clamps import Clamp
from beetcampaign.fields import Field, best_plan, tons_dug, tons_planned
from beetcampaign.growers import MOST_HELD, clean_part, sugar_of_load
from beetcampaign.refusals import ABSENT, ALREADY, FULL, IMPOSSIBLE, WRONG

MOST_FIELDS = 6
MOST_TONS = 5000
MOST_EARTH = 1000


def one_more(week):
    return 0 if week is None else week + 1


def holds_fit(works, holds):
    return len(holds) == len(works.weeks) and max(holds) <= MOST_HELD


def add_field(works, g, tons, holds):
    if g >= len(works.growers):
        return [ABSENT]
    if tons < 1 or tons > MOST_TONS or not holds_fit(works, holds):
        return [WRONG]
    if len(works.fields) == MOST_FIELDS:
        return [FULL]
    works.fields.append(Field(g, tons, holds))
    return [len(works.fields) - 1]


def tell_field(works, f):
    if f >= len(works.fields):
        return [ABSENT]
    field = works.fields[f]
    return [one_more(field.dug_week), field.grower, field.tons, one_more(field.planned_week)]


def tell_held(works, f):
    if f >= len(works.fields):
        return [ABSENT]
    holds = works.fields[f].holds
    return [len(holds)] + holds


def tell_ripest(works, f):
    if f >= len(works.fields):
        return [ABSENT]
    field = works.fields[f]
    week = field.ripest_week()
    return [week, field.sugar_in(week)]


def find_best(works):
    rooms = [works.room_in(week) for week in range(len(works.weeks))]
    return best_plan(works.undug_fields(), rooms)


def tell_best(works):
    best = find_best(works)
    if best is None:
        return [IMPOSSIBLE]
    return [best[0], len(best[1])] + best[1]


def plan_field(works, f, w):
    if f >= len(works.fields):
        return [ABSENT]
    field = works.fields[f]
    if field.dug_week is not None:
        return [ALREADY]
    if w >= len(works.weeks):
        return [WRONG]
    before = one_more(field.planned_week)
    field.planned_week = w
    return [before]


def adopt_best(works):
    best = find_best(works)
    if best is None:
        return [IMPOSSIBLE]
    for field, week in zip(works.undug_fields(), best[1]):
        field.planned_week = week
    return [best[0]]


def tell_planned(works):
    planned = [field for field in works.undug_fields() if field.planned_week is not None]
    sugar = sum([field.sugar_in(field.planned_week) for field in planned])
    fits = all([tons_planned(planned, week) <= works.room_in(week) for week in range(len(works.weeks))])
    return [sugar, int(fits), len(planned)]


def tell_room(works, w):
    if w >= len(works.weeks):
        return [WRONG]
    return [works.room_in(w), tons_dug(works.fields, w), tons_planned(works.fields, w)]


def can_dig_now(works, field):
    week = works.this_week()
    return week < len(works.weeks) and field.tons <= works.room_in(week)


def dig_field(works, f, earth):
    if f >= len(works.fields):
        return [ABSENT]
    field = works.fields[f]
    if field.dug_week is not None:
        return [ALREADY]
    if earth > MOST_EARTH:
        return [WRONG]
    if not can_dig_now(works, field):
        return [IMPOSSIBLE]
    field.dug_week = works.this_week()
    held = field.holds[field.dug_week]
    clean = clean_part(field.tons * 1000, earth)
    sugar = sugar_of_load(clean, held)
    works.clamps.append(Clamp(field.grower, clean, sugar))
    cents = works.growers[field.grower].deliver(clean, sugar, works.price_for(held))
    return [sugar, len(works.clamps) - 1, clean, cents]


# Behind each call's number: what answers it, how many whole numbers it has, whether a row follows.
FIELD_CALLS = {
    3: (add_field, 2, True),
    4: (tell_field, 1, False),
    5: (tell_held, 1, False),
    6: (tell_ripest, 1, False),
    7: (tell_best, 0, False),
    8: (plan_field, 2, False),
    9: (adopt_best, 0, False),
    10: (tell_planned, 0, False),
    11: (tell_room, 1, False),
    12: (dig_field, 2, False),
}
