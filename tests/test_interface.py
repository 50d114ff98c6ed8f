import unittest

from calling import MOST, NAMES, CallTest, ask, encoded, last
from beetcampaign.works import answers

CAMPAIGN = [
    ("start", [1000, 2000]), ("terms", 3000, 5), ("grower", 100000), ("field", 0, 300, [1500, 1700]),
    ("field", 0, 200, [1400, 1800]), ("field_at", 0), ("held", 1), ("ripest", 0), ("best",), ("plan", 0, 0),
    ("adopt",), ("planned",), ("room", 1), ("dig", 0, 50), ("grower_at", 0), ("price", 1650), ("pay", 0),
    ("bonus", 1000), ("day", 55), ("days", [45, 60]), ("cover", 0), ("uncover", 0), ("heap", 0), ("heaps",),
    ("lose", 0, 60), ("when_cover", 0, [50, 40, 70]), ("order", [60, 60]), ("haul", 0, 100000), ("frost",),
    ("set", 110, 60), ("cells", 3), ("slice", 500), ("dirt", 150), ("tower", 10), ("cell", 1), ("in_tower",),
    ("steady",), ("fewest", 4000), ("yield",), ("lime", 60), ("raw",), ("would_lime", 200), ("best_lime",),
    ("filters", 2, 5, 2), ("filter", 20), ("filters_at",), ("best_cycle",), ("thin",), ("silo", 5000),
    ("strike", 40, 30, 400), ("strike", 20, 30, 90000), ("strike", 9, 9, 9), ("unstrike", 2), ("strikes",), ("ends",),
    ("soonest",), ("sort",), ("boil", 30), ("times",), ("second", 15, 100), ("green",), ("molasses",), ("stored",),
    ("sale", 100, 900, 3), ("sale", 100, 950, 1), ("sale", 7, 7, 7), ("cancel", 2), ("sales",), ("sale_at", 1),
    ("send", 0, 30), ("late",), ("owed",), ("income",), ("today",), ("sums",), ("others",), ("state",),
]
AGAIN = [("start", []), ("start", [5]), ("best",)]

# How many numbers each call answers where it isn't refused, with so many things as there are then.
COUNTS = {"field_at": 4, "ripest": 2, "planned": 3, "room": 3, "dig": 4, "grower_at": 5, "day": 2, "days": 2,
          "heap": 5, "lose": 3, "when_cover": 2, "haul": 2, "tower": 3, "cell": 2, "in_tower": 3, "steady": 3,
          "held": 1 + 2, "best": 2 + 2, "bonus": 1 + 1, "heaps": 1 + 1, "frost": 1 + 1, "order": 2 + 1, "yield": 4,
          "raw": 4, "would_lime": 4, "best_lime": 2, "filter": 3, "filters_at": 2 + 2 * 2, "best_cycle": 2, "thin": 4,
          "strikes": 1 + 2 * 3, "ends": 1 + 2, "soonest": 2 + 2, "boil": 4, "times": 2, "second": 3, "green": 4,
          "molasses": 4, "stored": 3, "sales": 1 + 2, "sale_at": 5, "send": 2, "late": 1 + 1, "income": 3, "today": 2,
          "sums": 13, "others": 6, "state": 8}
# The places of the counts that are told, where it isn't the length of all that's answered.
COUNTED = {"held": (0, 1), "bonus": (0, 1), "heaps": (0, 1), "frost": (0, 1), "strikes": (0, 3), "ends": (0, 1),
           "sales": (0, 1), "late": (0, 1), "best": (1, 1), "order": (1, 1), "soonest": (1, 1), "filters_at": (1, 2)}
CHANGES = ("start", "terms", "grower", "field", "plan", "adopt", "dig", "pay", "bonus", "day", "days", "cover",
           "uncover", "haul", "set", "cells", "slice", "dirt", "tower", "lime", "filters", "filter", "strike",
           "unstrike", "sort", "boil", "second", "silo", "sale", "cancel", "send")


class FormTest(CallTest):
    def test_counts_and_numbers(self):
        self.assertEqual(answers([0, 1, 30000]), [1, 0])
        self.assertEqual(answers([0, 0]), [1, -22])
        self.assertEqual(answers([0, 0, 0, 2, 7, 8, 11, 1, 4, 0, 2, 9, 22]),
                         [1, -22, 1, 0, 3, 8, 0, 0, 1, -2, 1, 0, 1, 0])

    def test_rows_have_their_length_ahead(self):
        self.assertEqual(answers([0, 2, 50, 60, 2, 1, 3, 0, 40, 2, 10, 20, 5, 0, 7]),
                         [1, 0, 1, 0, 1, 0, 3, 2, 10, 20, 3, 80, 1, 1])
        self.assertEqual(answers([0, 1, 9, 18, 3, 50, 50, 50, 24, 0, 1, 60, 25, 0, 18, 0]),
                         [1, 0, 2, 0, 3, 1, -2, 2, 0, 0, 2, 0, 3])

    def test_a_refused_call_is_read_to_its_end(self):
        long = [4294967295] * 34
        calls = [("start", long), ("start", [9]), ("field", 0, 0, long), ("days", long), ("when_cover", 0, long),
                 ("order", long), ("in_tower",)]
        self.assertEqual(ask(calls), [[-22], [0], [-2], [-22], [-2], [-22], [0, 0, 0]])

    def test_a_refused_start_again_leaves_the_object(self):
        self.assertEqual(ask([("start", [5]), ("grower", 1), ("start", [1] * 7), ("grower", 1)]),
                         [[0], [0], [-22], [1]])

    def test_every_call_is_there(self):
        self.assertEqual(len(NAMES), 72)
        self.assertEqual(sorted({call[0] for call in CAMPAIGN}), sorted(NAMES))

    def test_every_call_answers_as_many_as_told(self):
        for call, told in zip(CAMPAIGN, ask(CAMPAIGN)):
            self.assertGreaterEqual(told[0], 0, call)
            self.assertEqual(len(told), COUNTS.get(call[0], 1), call)
            if call[0] in COUNTED:
                place, each = COUNTED[call[0]]
                self.assertEqual(len(told), place + 1 + told[place] * each, call)

    def test_whatever_numbers_are_handed_over(self):
        start = [("start", [5, 6])]
        numbers = {name: 0 for name in NAMES}
        for call in CAMPAIGN:
            numbers[call[0]] = sum(1 for given in call[1:] if not isinstance(given, list))
        rows = [[], [0], [MOST], [MOST] * 34]
        for name in NAMES[1:]:
            for row in rows if name in ("field", "days", "when_cover", "order") else [None]:
                call = (name,) + (MOST,) * numbers[name] + (() if row is None else (row,))
                told = ask(start + [call, ("today",)])
                self.assertEqual(len(told), 3)
                if numbers[name] or row and row[0] == MOST:
                    self.assertIn(told[1], ([-2], [-22]), call)

    def test_one_hundred_and_fifty_calls(self):
        calls = [("start", [30000] * 6), ("grower", 1)] + [("field", 0, 5000, [2000 + w for w in range(6)])] * 6
        calls += [("best",)] * 142
        told = ask(calls)
        self.assertEqual(told[-1], [6 * 5000 * 2005 // 10, 6] + [5] * 6)
        self.assertEqual(told[8:], [told[-1]] * 142)

    def test_calls_that_tell_change_nothing(self):
        tells = [call for call in CAMPAIGN if call[0] not in CHANGES] + [("days", [])]
        for some in (tells[::2], tells[1::2]):
            told = ask(CAMPAIGN + some + list(reversed(some)))[len(CAMPAIGN):]
            self.assertEqual(told, list(reversed(told)))
        told = ask(CAMPAIGN + tells)[len(CAMPAIGN):]
        self.assertEqual(told, [last(CAMPAIGN + [call]) for call in tells])

    def test_a_start_in_the_midst(self):
        told = ask(CAMPAIGN)
        for cut in range(1, len(CAMPAIGN), 3):
            begun = CAMPAIGN[:cut]
            self.assertEqual(ask(begun + CAMPAIGN[:150 - cut])[cut:], told[:150 - cut])
            self.assertEqual(ask(begun + AGAIN)[cut:], [[-22], [0], [0, 0]])
        # A start that's refused leaves all as it was.
        for cut in range(1, len(CAMPAIGN), 5):
            calls = CAMPAIGN[:cut] + [("start", [30001]), ("start", [])] + CAMPAIGN[cut:]
            self.assertEqual(ask(calls), told[:cut] + [[-22], [-22]] + told[cut:])


class NothingIsKeptTest(unittest.TestCase):
    def test_what_is_handed_in_is_not_changed(self):
        calls = encoded(CAMPAIGN)
        before = list(calls)
        answers(calls)
        self.assertEqual(calls, before)

    def test_not_for_a_while_either(self):
        class Watched(list):
            def changed(self, *given):
                raise AssertionError("the list handed in was changed")

            __setitem__ = __delitem__ = __iadd__ = __imul__ = changed
            append = extend = insert = pop = remove = clear = sort = reverse = changed

        self.assertEqual(answers(Watched(encoded(CAMPAIGN))), answers(encoded(CAMPAIGN)))

    def test_a_second_time_answers_as_the_first(self):
        first = answers(encoded(CAMPAIGN))
        answers([0, 1, 30000, 2, 1, 28, 200, 100, 29, 12, 30, 10000, 31, 300])
        self.assertEqual(answers(encoded(CAMPAIGN)), first)

    def test_what_is_given_back_is_a_list_of_its_own(self):
        calls = encoded(CAMPAIGN)
        first = answers(calls)
        expected = list(first)
        first.clear()
        self.assertEqual(answers(calls), expected)

    def test_whole_numbers_alone(self):
        told = answers(encoded(CAMPAIGN))
        self.assertIs(type(told), list)
        for number in told:
            self.assertIs(type(number), int)


if __name__ == "__main__":
    unittest.main()
