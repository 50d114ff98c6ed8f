"""What a campaign has had in all."""


class Totals:
    """Kilograms that came, went through or are gone since the start."""

    def __init__(self):
        self.lost = 0
        self.fed = 0
        self.drawn = 0
        self.others = 0
        self.pulp = 0
        self.limed_away = 0
        self.cake = 0

    def count_loss(self, lost):
        self.lost += lost

    def count_tower(self, fed, drawn, pulp):
        self.fed += fed
        self.drawn += drawn.sugar
        self.others += drawn.others
        self.pulp += pulp

    def count_lime(self, part, limed):
        self.limed_away += part.sugar - limed.sugar
        self.cake += part.others - limed.others
