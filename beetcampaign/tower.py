"""The tower: a row of cells through which beets go one way and juice the other."""

TICKS_TO_BE_STEADY = 300
MOST_CELLS = 12


class Tower:
    """The cells' sugar, in beets and in juice, and how the tower is set."""

    def __init__(self):
        self.beets = []
        self.juice = []
        self.draft = 100
        self.mixed = 50
        self.portion = 0
        self.dirt = 0

    def place_cells(self, count):
        self.beets = [0 for cell in range(count)]
        self.juice = [0 for cell in range(count)]

    def can_run(self):
        return len(self.beets) > 0 and self.portion > 0

    def sugar_inside(self):
        return sum(self.beets) + sum(self.juice)

    def tick(self, fed):
        """Feeds so much sugar, and answers what was drawn and what left with the pulp."""
        drawn = self.juice[0]
        pulp = self.beets[-1]
        beets = [fed] + self.beets[:-1]
        juice = self.juice[1:] + [0]
        moved = [mixing(cell_beets, cell_juice, self.draft, self.mixed)
                 for cell_beets, cell_juice in zip(beets, juice)]
        self.beets = [amount - gone for amount, gone in zip(beets, moved)]
        self.juice = [amount + come for amount, come in zip(juice, moved)]
        return (drawn, pulp)

    def emptied(self, count):
        """Another one with so many cells, set alike, without sugar."""
        other = Tower()
        other.place_cells(count)
        other.draft = self.draft
        other.mixed = self.mixed
        other.portion = self.portion
        return other


def mixing(beets, juice, draft, mixed):
    """How much goes from a cell's beets to its juice; below 0 if it goes the other way."""
    alike = (beets + juice) * 100 // (100 + draft)
    if beets < alike:
        return -((alike - beets) * mixed // 100)
    return (beets - alike) * mixed // 100


def steady_state(tower, count):
    """Behind how many ticks so many cells are steady, and what's drawn and left then; or None."""
    trial = tower.emptied(count)
    for ticks in range(TICKS_TO_BE_STEADY):
        beets = trial.beets
        juice = trial.juice
        out = trial.tick(trial.portion)
        if trial.beets == beets and trial.juice == juice:
            return (ticks, out[0], out[1])
    return None


def fewest_cells(tower, wanted):
    """The fewest cells that come to draw so many of ten thousand that are fed; or None."""
    for count in range(1, MOST_CELLS + 1):
        steady = steady_state(tower, count)
        if steady is not None and steady[1] * 10000 >= wanted * tower.portion:
            return count
    return None
