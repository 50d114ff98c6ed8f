"""The silo, and the sales that are filled from it."""


class Silo:
    """How much sugar it holds at most and has, how much was sold, and the cents for it."""

    def __init__(self):
        self.most = 0
        self.stored = 0
        self.sold = 0
        self.income = 0

    def has_room_for(self, kilograms):
        return self.stored + kilograms <= self.most

    def send_for(self, sale, kilograms):
        """Sends so much for the sale, and answers the cents that brings."""
        cents = kilograms * sale.price // 1000
        self.stored -= kilograms
        self.sold += kilograms
        self.income += cents
        sale.sent += kilograms
        return cents


class Sale:
    """Kilograms that are ordered, cents for a thousand, and the day they're due."""

    def __init__(self, kilograms, price, due_day):
        self.kilograms = kilograms
        self.price = price
        self.due_day = due_day
        self.sent = 0
        self.called_off = False

    def wanted(self):
        """How much it still wants, unless it's called off."""
        return self.kilograms - self.sent

    def is_wanting(self):
        return not self.called_off and self.wanted() > 0
