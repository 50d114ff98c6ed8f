"""Fields, what they bring, and the best plan for digging them."""


class Field:
    """A grower's field: its tons, and what its beets hold week by week."""

    def __init__(self, grower, tons, holds):
        self.grower = grower
        self.tons = tons
        self.holds = holds
        self.planned_week = None
        self.dug_week = None

    def sugar_in(self, week):
        return self.tons * self.holds[week] // 10

    def ripest_week(self):
        return self.holds.index(max(self.holds))


def tons_planned(fields, week):
    """A field that's dug is not counted: its tons have left the week's room already."""
    return sum([field.tons for field in fields if field.dug_week is None and field.planned_week == week])


def tons_dug(fields, week):
    return sum([field.tons for field in fields if field.dug_week == week])


def groups_that_fit(fields, week, room):
    """All groups of fields that can be dug together in the week, as bits, each with its sugar."""
    fitting = []
    for group in range(1 << len(fields)):
        members = [field for i, field in enumerate(fields) if group >> i & 1]
        if sum([field.tons for field in members]) <= room:
            fitting.append((group, sum([field.sugar_in(week) for field in members])))
    return fitting


def with_week(weeks, group, week):
    """The weeks, with this one for each field of the group."""
    return [week if group >> i & 1 else other for i, other in enumerate(weeks)]


def with_one_week_more(found, week, fitting):
    """For each group of fields the best plan that digs just these up to this week.

    Two plans that dig the same fields can be gone on with in the same ways, so the
    lesser of them never comes to be the best, and only the better one is kept.
    """
    wider = {}
    for dug in found:
        plan = found[dug]
        for group, sugar in fitting:
            if dug & group:
                continue
            together = plan[0] + sugar
            known = wider.get(dug | group)
            if known is not None and together < known[0]:
                continue
            weeks = with_week(plan[1], group, week)
            if known is None or together > known[0] or weeks < known[1]:
                wider[dug | group] = (together, weeks)
    return wider


def best_plan(fields, rooms):
    """The best plan's sugar and weeks for all these fields, or None if no plan is right."""
    found = {0: (0, [0 for field in fields])}
    for week, room in enumerate(rooms):
        found = with_one_week_more(found, week, groups_that_fit(fields, week, room))
    return found.get((1 << len(fields)) - 1)
