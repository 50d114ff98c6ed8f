"""Clamps, what they lose, and when they had best be covered or emptied."""

FREEZING_POINT = 50
FREEZES_AT = 46
FREEZES_COVERED_AT = 40
LOSS_WHOLE = 10000


class Clamp:
    """A heap of a grower's beets, in kilograms, with the sugar in it."""

    def __init__(self, grower, beets, sugar):
        self.grower = grower
        self.beets = beets
        self.sugar = sugar
        self.covered = False
        self.frozen = False

    def twin(self):
        """Another one just like it, to try out what would be."""
        other = Clamp(self.grower, self.beets, self.sugar)
        other.covered = self.covered
        other.frozen = self.frozen
        return other

    def would_freeze(self, warmth):
        limit = FREEZES_COVERED_AT if self.covered else FREEZES_AT
        return self.frozen or warmth <= limit

    def loss_rate(self, warmth):
        """How many of ten thousand kilograms a day with this warmth takes."""
        above = max(0, warmth - FREEZING_POINT)
        if self.would_freeze(warmth):
            return 200 if above > 0 else 0
        return 3 + above + (2 if self.covered else 0)

    def loss(self, warmth):
        return self.sugar * self.loss_rate(warmth) // LOSS_WHOLE

    def pass_day(self, warmth):
        """Lets a day go by, and answers what was lost."""
        lost = self.loss(warmth)
        self.frozen = self.would_freeze(warmth)
        self.sugar -= lost
        return lost

    def haul(self, kilograms):
        """Takes beets away, and answers the sugar that goes with them."""
        sugar = self.sugar * kilograms // self.beets
        self.beets -= kilograms
        self.sugar -= sugar
        return sugar


def left_if_covered_from(clamp, days, first):
    """What's left of the clamp behind the days, uncovered ahead of the first one told."""
    trial = clamp.twin()
    for day, warmth in enumerate(days):
        trial.covered = day >= first
        trial.pass_day(warmth)
    return trial.sugar


def best_cover(clamp, days):
    """The day from which on the clamp had best be covered, and what's left then."""
    left = [left_if_covered_from(clamp, days, first) for first in range(len(days) + 1)]
    most = max(left)
    return (left.index(most), most)


def sugar_by_day(clamp, days, count):
    """The clamp's sugar ahead of each of so many days; no loss behind the last one told."""
    trial = clamp.twin()
    told = []
    for day in range(count):
        told.append(trial.sugar)
        if day < len(days):
            trial.pass_day(days[day])
    return told


def orders(count):
    """All orders of the places from 0 on, those with the lesser place first ahead."""
    found = [[]]
    for length in range(count):
        longer = []
        for order in found:
            longer.extend([order + [place] for place in range(count) if place not in order])
        found = longer
    return found


def best_order(clamps, days):
    """What the best order of emptying the clamps gives, and that order as places."""
    told = [sugar_by_day(clamp, days, len(clamps)) for clamp in clamps]
    most = None
    best = []
    for order in orders(len(clamps)):
        given = sum([told[place][day] for day, place in enumerate(order)])
        if most is None or given > most:
            most = given
            best = order
    return (most, best)
