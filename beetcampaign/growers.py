"""Growers, their loads, and what they're paid."""

USUAL_HELD = 1600
MOST_HELD = 2500


class Grower:
    """A grower's quota, what came of it, and the cents for it."""

    def __init__(self, quota):
        self.quota = quota
        self.clean = 0
        self.sugar = 0
        self.due = 0
        self.paid = 0

    def quota_left(self):
        return max(0, self.quota - self.clean)

    def deliver(self, clean, sugar, price):
        """Takes a load into account, and answers what's paid for it."""
        cents = payment(clean, self.quota_left(), price)
        self.clean += clean
        self.sugar += sugar
        self.due += cents
        return cents


def clean_part(weighed, earth):
    return weighed - weighed * earth // 1000


def sugar_of_load(clean, held):
    return clean * held // 10000


def price_of(base, step, held):
    return max(0, base + step * (held - USUAL_HELD))


def payment(clean, quota_left, price):
    within = min(clean, quota_left)
    above = clean - within
    return (within * price + above * price // 2) // 1000


def shares(cents, parts):
    """The cents shared by the parts, those that rounding leaves over as well."""
    whole = sum(parts)
    if whole == 0:
        return [0 for part in parts]
    told = [part * cents // whole for part in parts]
    rests = [part * cents % whole for part in parts]
    # sorted keeps the order of like ones, so the first of them stays ahead.
    by_rest = sorted(range(len(parts)), key=lambda i: -rests[i])
    for i in by_rest[:cents - sum(told)]:
        told[i] += 1
    return told
