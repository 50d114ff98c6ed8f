"""Filters: cake that slows them down, washing, and the best time to wash."""

CLEAN_FLOW = 10000
CLEAN_DRAG = 10
LONGEST_CYCLE = 60


class Filters:
    """So many filters, washed for so many ticks once their cake is at the limit."""

    def __init__(self, how_many, wash_ticks, limit):
        self.wash_ticks = wash_ticks
        self.limit = limit
        self.cakes = [0 for place in range(how_many)]
        self.washing = [0 for place in range(how_many)]

    def flow(self):
        """How much goes through those that run, in a tick."""
        return sum([flow_through(cake) for cake, left in zip(self.cakes, self.washing) if left == 0])

    def tick(self):
        for place in range(len(self.cakes)):
            if self.washing[place] == 0:
                self.cakes[place] += 1
            else:
                self.wash_on(place)
        if sum(self.washing) == 0:
            self.begin_washing()

    def wash_on(self, place):
        self.washing[place] -= 1
        if self.washing[place] == 0:
            self.cakes[place] = 0

    def begin_washing(self):
        for place, cake in enumerate(self.cakes):
            if cake >= self.limit:
                self.washing[place] = self.wash_ticks
                return


def flow_through(cake):
    return CLEAN_FLOW // (CLEAN_DRAG + cake)


def best_cycle(wash_ticks):
    """How many ticks a filter had best run between two washings, and what runs through in them."""
    best = 0
    most = 0
    through = 0
    for ticks in range(1, LONGEST_CYCLE + 1):
        through += flow_through(ticks - 1)
        # Both are brought to one time, so that whole numbers tell which brings more.
        if through * (best + wash_ticks) > most * (ticks + wash_ticks):
            best = ticks
            most = through
    return (best, most)
