"""Strikes, one pan and one row of centrifuges, and the order that's over soonest."""


class Strike:
    """Minutes in the pan, minutes in the centrifuges, and kilograms of thin juice."""

    def __init__(self, pan, spin, kilograms):
        self.pan = pan
        self.spin = spin
        self.kilograms = kilograms


class Pans:
    """The minutes from which on the pan and the centrifuges are free."""

    def __init__(self, pan_free, spin_free):
        self.pan_free = pan_free
        self.spin_free = spin_free

    def run(self, strike):
        """Boils and spins a strike as soon as may be, and answers the minute in which it's spun."""
        self.pan_free += strike.pan
        self.spin_free = max(self.pan_free, self.spin_free) + strike.spin
        return self.spin_free


def spun_minutes(strikes, pan_free, spin_free):
    """The minutes in which the strikes are spun, boiled in this order."""
    pans = Pans(pan_free, spin_free)
    return [pans.run(strike) for strike in strikes]


def order_told(strikes):
    """The strikes' places in the order in which they're over soonest."""
    ahead = [place for place, strike in enumerate(strikes) if strike.pan <= strike.spin]
    behind = [place for place, strike in enumerate(strikes) if strike.pan > strike.spin]
    # sorted keeps the order of like ones, so the lesser place stays ahead.
    ahead = sorted(ahead, key=lambda place: strikes[place].pan)
    behind = sorted(behind, key=lambda place: -strikes[place].spin)
    return ahead + behind
