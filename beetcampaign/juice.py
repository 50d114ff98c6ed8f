"""Juice: sugar and other things, solved; and what lime and boiling make of it."""

MOST_LIME = 300
LIME_OF_USE = 200


class Juice:
    """So many kilograms of sugar, and of other things."""

    def __init__(self, sugar=0, others=0):
        self.sugar = sugar
        self.others = others

    def weight(self):
        return self.sugar + self.others

    def purity(self):
        return self.sugar * 10000 // self.weight() if self.weight() > 0 else 0

    def to_be_had(self):
        """How much of it crystals can be made of."""
        return max(0, self.sugar - self.others * 3 // 2)

    def part(self, kilograms):
        """So many kilograms of it, or all there is, evenly; it stays as it is."""
        taken = min(kilograms, self.weight())
        sugar = taken * self.sugar // self.weight() if taken > 0 else 0
        return Juice(sugar, taken - sugar)

    def pour(self, other):
        self.sugar += other.sugar
        self.others += other.others

    def draw_off(self, other):
        self.sugar -= other.sugar
        self.others -= other.others

    def limed(self, lime):
        """What's left of it, limed with so many ten-thousandths."""
        others = self.others * min(lime, LIME_OF_USE) // 500
        sugar = self.sugar * lime // 100000
        return Juice(self.sugar - sugar, self.others - others)

    def crystals(self, kept):
        """What crystallizes of it, boiled so that ten of the other things keep so much sugar."""
        return max(0, self.sugar - self.others * kept // 10)


def best_lime(juice):
    """The least lime with which most is to be had, and how much that is."""
    had = [juice.limed(lime).to_be_had() for lime in range(MOST_LIME + 1)]
    most = max(had)
    return (had.index(most), most)
