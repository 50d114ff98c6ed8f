"""Calls by name for the tests, and what is checked of every refusal."""

import unittest

from beetcampaign.works import answers

NAMES = (
    "start", "terms", "grower", "field", "field_at", "held", "ripest", "best", "plan", "adopt", "planned", "room",
    "dig", "grower_at", "price", "pay", "bonus", "day", "days", "cover", "uncover", "heap", "heaps", "lose",
    "when_cover", "order", "haul", "frost", "set", "cells", "slice", "dirt", "tower", "cell", "in_tower", "steady",
    "fewest", "yield", "lime", "raw", "would_lime", "best_lime", "filters", "filter", "filters_at", "best_cycle",
    "thin", "strike", "unstrike", "strikes", "ends", "soonest", "sort", "boil", "times", "second", "green",
    "molasses", "silo", "stored", "sale", "cancel", "sales", "sale_at", "send", "late", "owed", "income", "today",
    "sums", "others", "state",
)

MOST = 4294967295


def encoded(calls):
    """The list that is handed in for calls such as ("field", 0, 300, [1500, 1600])."""
    numbers = []
    for call in calls:
        numbers.append(NAMES.index(call[0]))
        for given in call[1:]:
            if isinstance(given, list):
                numbers.append(len(given))
                numbers.extend(given)
            else:
                numbers.append(given)
    return numbers


def decoded(numbers):
    """The answers, a list each."""
    told = []
    place = 0
    while place < len(numbers):
        count = numbers[place]
        told.append(numbers[place + 1:place + 1 + count])
        place += 1 + count
    return told


def ask(calls):
    """What is answered to each of the calls."""
    calls = list(calls)
    if len(calls) > 150:
        raise ValueError("a list has at most 150 calls")
    told = decoded(answers(encoded(calls)))
    if len(told) != len(calls):
        raise ValueError("there is not one answer a call")
    return told


def last(calls):
    """What is answered to the last of the calls."""
    return ask(calls)[-1]


def juice_calls(sugar, dirt, times=1):
    """Calls of a new object behind which the raw juice has so much sugar (1 to 6,667), so many times.

    One cell at draft 200, wholly mixed, has two thirds of what is fed in its juice, rounded up.
    Of other things the raw juice has so many thousandths as the dirt is, rounded down, as many times.
    """
    fed = 3 * sugar // 2
    tons = (fed * times * 10 + 999) // 1000
    return [("start", [30000]), ("grower", 1), ("field", 0, tons, [1000]), ("dig", 0, 0),
            ("haul", 0, fed * times * 10), ("set", 200, 100), ("cells", 1), ("slice", fed), ("dirt", dirt),
            ("tower", times + 1)]


def thin_calls(sugar, dirt, times=1):
    """Calls behind which all that the raw juice would have is thin juice, as it was."""
    return juice_calls(sugar, dirt, times) + [("filters", 1, 1000, 6), ("filter", 60)]


def field_probes():
    """Calls whose answers show growers, fields, clamps and the tower; those that only tell stand first."""
    calls = [("price", 0), ("price", 1600), ("price", 2500), ("best",), ("planned",), ("heaps",), ("frost",),
             ("in_tower",), ("steady",), ("order", [60, 40]), ("today",), ("sums",), ("others",), ("state",),
             ("income",), ("yield",), ("fewest", 5000)]
    calls += [("grower_at", g) for g in range(6)]
    calls += [("field_at", f) for f in range(6)] + [("held", f) for f in range(2)]
    calls += [("room", w) for w in range(6)]
    calls += [("heap", k) for k in range(6)]
    calls += [("cell", i) for i in range(12)]
    calls += [("days", []), ("slice", 7), ("dirt", 1), ("set", 100, 50), ("tower", 3), ("haul", 0, 1)]
    calls += [("grower", 5), ("field", 0, 2, [9]), ("pay", 0), ("bonus", 100000000), ("day", 60), ("cells", 2)]
    return calls


def juice_probes():
    """Calls whose answers show juice, pans and the silo; those that only tell stand first."""
    calls = [("sums",), ("others",), ("state",), ("income",), ("raw",), ("best_lime",), ("filters_at",),
             ("best_cycle",), ("thin",), ("strikes",), ("ends",), ("soonest",), ("times",), ("green",), ("molasses",),
             ("stored",), ("sales",), ("late",), ("owed",)]
    calls += [("sale_at", o) for o in range(10)]
    calls += [("lime", 3), ("filter", 3), ("filters_at",), ("silo", 100000000), ("boil", 7), ("times",),
              ("second", 3, 50), ("strike", 3, 4, 5), ("sale", 7, 8, 9), ("send", 0, 1), ("cancel", 1), ("tower", 3),
              ("raw",), ("filters", 2, 3, 4), ("sort",), ("unstrike", 0), ("sums",), ("others",)]
    return calls


class CallTest(unittest.TestCase):
    """Checks of answers, and of refusals with what they leave as it was."""

    def check(self, calls, expected):
        self.assertEqual(last(calls), expected)

    def check_all(self, pairs):
        """Pairs of a call and its answer, one behind another on one object."""
        told = ask([pair[0] for pair in pairs])
        for place, pair in enumerate(pairs):
            self.assertEqual(told[place], pair[1], (place, pair[0]))

    def check_refused(self, before, call, number):
        """The call is refused with the number alone, and all is as if it had not been."""
        before = list(before)
        for probes in (field_probes(), juice_probes()):
            told = ask(before + [call] + probes)
            self.assertEqual(told.pop(len(before)), [number], call)
            self.assertEqual(told, ask(before + probes), call)
