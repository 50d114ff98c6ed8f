import unittest

from calling import CallTest, ask, encoded
from beetcampaign.works import answers

CAMPAIGN = [
    ("start", [1000, 2000]), ("terms", 3000, 5), ("grower", 100000), ("field", 0, 300, [1500, 1700]),
    ("field", 0, 200, [1400, 1800]), ("field_at", 0), ("held", 1), ("ripest", 0), ("best",), ("plan", 0, 0),
    ("adopt",), ("planned",), ("room", 1), ("dig", 0, 50), ("grower_at", 0), ("price", 1650), ("pay", 0),
    ("bonus", 1000), ("day", 55), ("days", [45, 60]), ("cover", 0), ("uncover", 0), ("heap", 0), ("heaps",),
    ("lose", 0, 60), ("when_cover", 0, [50, 40, 70]), ("order", [60, 60]), ("haul", 0, 100000), ("frost",),
    ("set", 110, 60), ("cells", 3), ("slice", 500), ("dirt", 150), ("tower", 10), ("cell", 1), ("in_tower",),
    ("steady",), ("start", []), ("start", [5]), ("best",),
]

# How many numbers each call answers where it isn't refused and there is one of each thing.
COUNTS = {"field_at": 4, "ripest": 2, "planned": 3, "room": 3, "dig": 4, "grower_at": 5, "day": 2, "days": 2,
          "heap": 5, "lose": 3, "when_cover": 2, "haul": 2, "tower": 3, "cell": 2, "in_tower": 3, "steady": 3,
          "held": 3, "bonus": 2, "heaps": 2, "frost": 2, "order": 3}


class FormTest(CallTest):
    def test_counts_and_numbers(self):
        self.assertEqual(answers([0, 1, 30000]), [1, 0])
        self.assertEqual(answers([0, 0]), [1, -22])
        self.assertEqual(answers([0, 0, 0, 2, 7, 8, 11, 1, 4, 0, 2, 9, 22]),
                         [1, -22, 1, 0, 3, 8, 0, 0, 1, -2, 1, 0, 1, 0])

    def test_rows_have_their_length_ahead(self):
        self.assertEqual(answers([0, 2, 50, 60, 2, 1, 3, 0, 40, 2, 10, 20, 5, 0, 7]),
                         [1, 0, 1, 0, 1, 0, 3, 2, 10, 20, 3, 80, 1, 1])
        self.assertEqual(answers([0, 1, 9, 18, 3, 50, 50, 50, 24, 0, 1, 60, 25, 0, 18, 0]),
                         [1, 0, 2, 0, 3, 1, -2, 2, 0, 0, 2, 0, 3])

    def test_a_refused_call_is_read_to_its_end(self):
        long = [4294967295] * 34
        calls = [("start", long), ("start", [9]), ("field", 0, 0, long), ("days", long), ("when_cover", 0, long),
                 ("order", long), ("in_tower",)]
        self.assertEqual(ask(calls), [[-22], [0], [-2], [-22], [-2], [-22], [0, 0, 0]])

    def test_a_refused_start_again_leaves_the_object(self):
        self.assertEqual(ask([("start", [5]), ("grower", 1), ("start", [1] * 7), ("grower", 1)]),
                         [[0], [0], [-22], [1]])

    def test_every_call_answers_as_many_as_told(self):
        for call, told in zip(CAMPAIGN, ask(CAMPAIGN)):
            if told[0] < 0:
                self.assertEqual(call, ("start", []))
                self.assertEqual(told, [-22])
            elif call != ("best",):
                self.assertEqual(len(told), COUNTS.get(call[0], 1), call)
        self.assertEqual([len(told) for call, told in zip(CAMPAIGN, ask(CAMPAIGN)) if call == ("best",)], [4, 2])

    def test_one_hundred_and_fifty_calls(self):
        calls = [("start", [30000] * 6), ("grower", 1)] + [("field", 0, 5000, [2000 + w for w in range(6)])] * 6
        calls += [("best",)] * 142
        told = ask(calls)
        self.assertEqual(told[-1], [6 * 5000 * 2005 // 10, 6] + [5] * 6)
        self.assertEqual(told[8:], [told[-1]] * 142)

    def test_calls_that_tell_change_nothing(self):
        before = CAMPAIGN[:37]
        tells = [("field_at", 0), ("held", 1), ("ripest", 0), ("best",), ("planned",), ("room", 1), ("grower_at", 0),
                 ("price", 1650), ("heap", 0), ("heaps",), ("lose", 0, 60), ("when_cover", 0, [50, 40, 70]),
                 ("order", [60, 60]), ("frost",), ("cell", 1), ("in_tower",), ("steady",), ("days", [])]
        told = ask(before + tells + list(reversed(tells)))[len(before):]
        self.assertEqual(told, list(reversed(told)))


class NothingIsKeptTest(unittest.TestCase):
    def test_what_is_handed_in_is_not_changed(self):
        calls = encoded(CAMPAIGN)
        before = list(calls)
        answers(calls)
        self.assertEqual(calls, before)

    def test_not_for_a_while_either(self):
        class Watched(list):
            def changed(self, *given):
                raise AssertionError("the list handed in was changed")

            __setitem__ = __delitem__ = __iadd__ = __imul__ = changed
            append = extend = insert = pop = remove = clear = sort = reverse = changed

        self.assertEqual(answers(Watched(encoded(CAMPAIGN))), answers(encoded(CAMPAIGN)))

    def test_a_second_time_answers_as_the_first(self):
        first = answers(encoded(CAMPAIGN))
        answers([0, 1, 30000, 2, 1, 28, 200, 100, 29, 12, 30, 10000, 31, 300])
        self.assertEqual(answers(encoded(CAMPAIGN)), first)

    def test_what_is_given_back_is_a_list_of_its_own(self):
        calls = encoded(CAMPAIGN)
        first = answers(calls)
        expected = list(first)
        first.clear()
        self.assertEqual(answers(calls), expected)

    def test_whole_numbers_alone(self):
        told = answers(encoded(CAMPAIGN))
        self.assertIs(type(told), list)
        for number in told:
            self.assertIs(type(number), int)


if __name__ == "__main__":
    unittest.main()
