"""Juice: sugar and other things, solved."""


class Juice:
    """So many kilograms of sugar, and of other things."""

    def __init__(self):
        self.sugar = 0
        self.others = 0

    def pour(self, sugar, others):
        self.sugar += sugar
        self.others += others
