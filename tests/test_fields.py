import random
import unittest
from itertools import product

from calling import MOST, CallTest, ask, last

START = ("start", [1000, 2000, 500])
ONE = [START, ("grower", 1000000), ("field", 0, 300, [1500, 1700, 1650])]


class StartTest(CallTest):
    def test_weeks(self):
        for weeks in ([0], [30000], [1] * 6, [30000] * 6, [0, 30000]):
            self.check([("start", weeks)], [0])
            self.check([("start", weeks), ("room", len(weeks) - 1)], [weeks[-1], 0, 0])
            self.check([("start", weeks), ("room", len(weeks))], [-22])

    def test_refused(self):
        for weeks in ([], [1] * 7, [30001], [1, 30001], [30001, 1], [MOST] * 6, [1] * 34, [MOST] * 34):
            self.assertEqual(ask([("start", weeks), START]), [[-22], [0]])
            self.check_refused(ONE + [("plan", 0, 1), ("dig", 0, 0), ("day", 60)], ("start", weeks), -22)

    def test_again(self):
        used = ONE + [("terms", 3000, 5), ("plan", 0, 1), ("dig", 0, 0), ("cells", 2), ("slice", 50), ("dirt", 9),
                      ("set", 120, 60), ("haul", 0, 1000), ("tower", 3), ("bonus", 100), ("day", 60)]
        tells = [("price", 2500), ("grower_at", 0), ("field_at", 0), ("heap", 0), ("in_tower",), ("days", []),
                 ("room", 0), ("slice", 1), ("dirt", 1), ("steady",), ("cells", 1), ("tower", 1), ("planned",)]
        again = [("start", [7])]
        self.assertEqual(ask(used + again + tells)[len(used):], ask(again + tells))
        self.assertEqual(ask(again + tells)[1:], [[0], [-2], [-2], [-2], [0, 0, 0], [0, 0], [7, 0, 0], [0], [0],
                                                  [-6], [0], [0, 0, 0], [0, 1, 0]])


class FieldTest(CallTest):
    def test_numbers(self):
        calls = [START, ("grower", 1)] + [("field", 0, 1 + f, [0, 0, 0]) for f in range(6)]
        self.assertEqual(ask(calls)[2:], [[0], [1], [2], [3], [4], [5]])

    def test_told(self):
        calls = [START, ("grower", 1), ("grower", 1), ("field", 0, 1, [0, 2500, 7]), ("field", 1, 5000, [2500, 0, 0])]
        self.check(calls + [("field_at", 0)], [0, 0, 1, 0])
        self.check(calls + [("field_at", 1)], [0, 1, 5000, 0])
        self.check(calls + [("held", 0)], [3, 0, 2500, 7])
        self.check(calls + [("held", 1)], [3, 2500, 0, 0])

    def test_refused(self):
        before = ONE
        self.check_refused(before, ("field", 0, 0, [1, 2, 3]), -22)
        self.check_refused(before, ("field", 0, 5001, [1, 2, 3]), -22)
        self.check_refused(before, ("field", 0, MOST, [1, 2, 3]), -22)
        self.check_refused(before, ("field", 0, 1, [2501, 2, 3]), -22)
        self.check_refused(before, ("field", 0, 1, [1, 2, 2501]), -22)
        for holds in ([], [1, 2], [1, 2, 3, 4], [1] * 34, [MOST] * 3):
            self.check_refused(before, ("field", 0, 1, holds), -22)

    def test_order_of_refusals(self):
        full = [START, ("grower", 1)] + [("field", 0, 1, [0, 0, 0])] * 6
        self.check_refused(full, ("field", 0, 1, [0, 0, 0]), -28)
        self.check_refused(full, ("field", 0, 0, [0, 0, 0]), -22)
        self.check_refused(full, ("field", 0, 1, [0, 0]), -22)
        self.check_refused(full, ("field", 1, 0, []), -2)
        self.check_refused([START], ("field", 0, 1, [0, 0, 0]), -2)
        self.check_refused([START, ("grower", 1)], ("field", MOST, 1, [0, 0, 0]), -2)

    def test_absent(self):
        for call in (("field_at", 1), ("held", 1), ("ripest", 1), ("plan", 1, 9), ("dig", 1, 1001),
                     ("field_at", MOST), ("held", MOST), ("ripest", MOST), ("plan", MOST, 0), ("dig", MOST, 0)):
            self.check_refused(ONE, call, -2)

    def test_ripest(self):
        self.check(ONE + [("ripest", 0)], [1, 51000])
        for holds, told in (([9, 9, 9], [0, 2]), ([8, 9, 9], [1, 2]), ([8, 8, 9], [2, 2]), ([0, 0, 0], [0, 0])):
            self.check([START, ("grower", 1), ("field", 0, 3, holds), ("ripest", 0)], told)

    def test_ripest_in_a_week_that_is_over_and_behind_the_dig(self):
        later = ONE + [("days", [50] * 14)]
        self.check(later + [("ripest", 0)], [1, 51000])
        self.check(later + [("dig", 0, 500), ("ripest", 0)], [1, 51000])


class PlanTest(CallTest):
    def test_plan(self):
        self.check_all([(ONE[0], [0]), (ONE[1], [0]), (ONE[2], [0]), (("plan", 0, 2), [0]), (("plan", 0, 0), [3]),
                        (("field_at", 0), [0, 0, 300, 1]), (("plan", 0, 1), [1]), (("field_at", 0), [0, 0, 300, 2])])

    def test_refused(self):
        self.check_refused(ONE, ("plan", 0, 3), -22)
        self.check_refused(ONE + [("plan", 0, 1)], ("plan", 0, MOST), -22)
        self.check_refused(ONE + [("dig", 0, 0)], ("plan", 0, 0), -17)
        self.check_refused(ONE + [("dig", 0, 0)], ("plan", 0, 3), -17)

    def test_a_week_that_is_over(self):
        later = ONE + [("days", [50] * 7)]
        self.check(later + [("plan", 0, 0)], [0])
        self.check(later + [("plan", 0, 0), ("field_at", 0)], [0, 0, 300, 1])
        self.check(later + [("plan", 0, 0), ("planned",)], [45000, 0, 1])
        self.check(later + [("plan", 0, 0), ("room", 0)], [0, 0, 300])

    def test_planned(self):
        two = ONE + [("field", 0, 201, [1009, 1009, 1009])]
        self.check(two + [("planned",)], [0, 1, 0])
        self.check(two + [("plan", 1, 2), ("planned",)], [20280, 1, 1])
        self.check(two + [("plan", 0, 1), ("plan", 1, 1), ("planned",)], [71280, 1, 2])
        self.check(two + [("plan", 0, 2), ("plan", 1, 2), ("planned",)], [69780, 0, 2])
        self.check(two + [("plan", 0, 2), ("plan", 1, 2), ("room", 2)], [500, 0, 501])
        self.check(two + [("plan", 0, 0), ("plan", 1, 0), ("dig", 1, 0), ("planned",)], [45000, 1, 1])

    def test_just_the_room_is_enough(self):
        two = ONE + [("field", 0, 200, [1, 1, 1]), ("plan", 0, 2), ("plan", 1, 2)]
        self.check(two + [("planned",)], [300 * 1650 // 10 + 20, 1, 2])

    def test_planned_beyond_the_room_that_digging_leaves(self):
        two = [("start", [400]), ("grower", 1), ("field", 0, 300, [10]), ("field", 0, 101, [10]), ("plan", 1, 0)]
        self.check(two + [("planned",)], [101, 1, 1])
        self.check(two + [("dig", 0, 0), ("planned",)], [101, 0, 1])
        self.check(two + [("dig", 0, 0), ("room", 0)], [100, 300, 101])

    def test_a_field_that_is_dug_is_not_counted_as_planned(self):
        calls = ONE + [("plan", 0, 1), ("dig", 0, 0)]
        self.check(calls + [("planned",)], [0, 1, 0])
        self.check(calls + [("room", 1)], [2000, 0, 0])
        self.check(calls + [("field_at", 0)], [1, 0, 300, 2])


class BestTest(CallTest):
    def test_ripest_where_there_is_room(self):
        self.check(ONE + [("best",)], [51000, 1, 1])

    def test_no_fields(self):
        self.check([START, ("best",)], [0, 0])
        self.check([START, ("adopt",)], [0])
        self.check(ONE + [("dig", 0, 0), ("best",)], [0, 0])
        self.check(ONE + [("dig", 0, 0), ("days", [50] * 21), ("adopt",)], [0])

    def test_crowded_out(self):
        calls = [("start", [100, 100]), ("grower", 1), ("field", 0, 60, [1000, 2000]), ("field", 0, 60, [1500, 2000])]
        self.check(calls + [("best",)], [21000, 2, 1, 0])

    def test_of_like_ones_the_lesser_week_where_it_first_differs(self):
        calls = [("start", [100, 100, 100]), ("grower", 1)] + [("field", 0, 60, [10, 10, 10])] * 3
        self.check(calls + [("best",)], [180, 3, 0, 1, 2])
        wide = [("start", [200, 200, 200]), ("grower", 1)] + [("field", 0, 60, [9, 10, 10])] * 2
        self.check(wide + [("best",)], [120, 2, 1, 1])

    def test_sugar_is_rounded_for_each_field(self):
        calls = [("start", [100]), ("grower", 1)] + [("field", 0, 1, [9])] * 6
        self.check(calls + [("best",)], [0, 6] + [0] * 6)

    def test_none(self):
        none = [("start", [299, 299]), ("grower", 1), ("field", 0, 300, [1, 1]), ("plan", 0, 0)]
        self.check_refused(none, ("best",), -33)
        self.check_refused(none, ("adopt",), -33)
        over = ONE + [("days", [50] * 21)]
        self.check_refused(over, ("best",), -33)
        self.check_refused(over, ("adopt",), -33)

    def test_room_of_this_week_only(self):
        calls = ONE + [("field", 0, 800, [2000, 1, 1]), ("field", 0, 200, [2000, 3, 1])]
        self.check(calls + [("best",)], [51000 + 160000 + 40000, 3, 1, 0, 0])
        self.check(calls + [("dig", 0, 0), ("best",)], [40080, 2, 1, 0])
        self.check(calls + [("days", [50] * 6), ("best",)], [251000, 3, 1, 0, 0])
        self.check(calls + [("days", [50] * 7), ("best",)], [51000 + 80 + 60, 3, 1, 1, 1])

    def test_adopt(self):
        calls = ONE + [("field", 0, 800, [2000, 1, 1]), ("field", 0, 200, [2000, 3, 1]), ("plan", 1, 2), ("dig", 0, 0)]
        self.check(calls + [("adopt",)], [40080])
        told = ask(calls + [("adopt",), ("field_at", 0), ("field_at", 1), ("field_at", 2), ("planned",)])
        self.assertEqual(told[-4:], [[1, 0, 300, 0], [0, 0, 800, 2], [0, 0, 200, 1], [40080, 1, 2]])

    def test_best_plans_nothing(self):
        self.check(ONE + [("best",), ("field_at", 0)], [0, 0, 300, 0])


def right_plans(rooms, fields):
    """All right plans, each as less of its sugar first, then its weeks."""
    for weeks in product(range(len(rooms)), repeat=len(fields)):
        loads = [0] * len(rooms)
        for week, field in zip(weeks, fields):
            loads[week] += field[0]
        if all(load <= room for load, room in zip(loads, rooms)):
            yield (-sum(tons * holds[week] // 10 for week, (tons, holds) in zip(weeks, fields)), weeks)


class BestOfAllPlansTest(unittest.TestCase):
    def test_against_all_plans(self):
        source = random.Random(5)
        for trial in range(60):
            count = source.randint(1, 5)
            rooms = [source.choice((0, 5, 8, 12)) for week in range(source.randint(1, 4))]
            fields = [(source.randint(1, 6), [source.choice((10, 20, 29, 30)) for room in rooms])
                      for field in range(count)]
            calls = [("start", rooms), ("grower", 1)] + [("field", 0, tons, holds) for tons, holds in fields]
            best = min(right_plans(rooms, fields), default=None)
            expected = [-33] if best is None else [-best[0], count] + list(best[1])
            self.assertEqual(last(calls + [("best",)]), expected, (rooms, fields))

    def test_six_fields_and_six_weeks(self):
        rooms = [5, 7, 9, 4, 6, 8]
        fields = [(3 + f, [(f * 7 + week * 5) % 11 * 10 for week in range(6)]) for f in range(6)]
        calls = [("start", rooms), ("grower", 1)] + [("field", 0, tons, holds) for tons, holds in fields]
        best = min(right_plans(rooms, fields))
        self.assertEqual(last(calls + [("best",)]), [-best[0], 6] + list(best[1]))


class RoomTest(CallTest):
    def test_room(self):
        self.check(ONE + [("room", 0)], [1000, 0, 0])
        self.check(ONE + [("plan", 0, 1), ("room", 1)], [2000, 0, 300])
        self.check(ONE + [("dig", 0, 0), ("room", 0)], [700, 300, 0])
        self.check(ONE + [("dig", 0, 0), ("room", 1)], [2000, 0, 0])

    def test_a_week_that_is_over(self):
        self.check(ONE + [("dig", 0, 0), ("days", [50] * 6), ("room", 0)], [700, 300, 0])
        self.check(ONE + [("dig", 0, 0), ("days", [50] * 7), ("room", 0)], [0, 300, 0])
        self.check(ONE + [("dig", 0, 0), ("days", [50] * 30), ("room", 2)], [0, 0, 0])

    def test_refused(self):
        self.check_refused(ONE, ("room", 3), -22)
        self.check_refused(ONE, ("room", MOST), -22)


class DigTest(CallTest):
    def test_dig(self):
        self.check(ONE + [("dig", 0, 100)], [40500, 0, 270000, 0])
        self.check(ONE + [("dig", 0, 100), ("field_at", 0)], [1, 0, 300, 0])
        self.check(ONE + [("dig", 0, 100), ("heap", 0)], [40500, 270000, 0, 0, 0])

    def test_what_the_field_holds_this_week(self):
        self.check(ONE + [("days", [50] * 6), ("dig", 0, 0)], [45000, 0, 300000, 0])
        self.check(ONE + [("days", [50] * 7), ("dig", 0, 0)], [51000, 0, 300000, 0])
        self.check(ONE + [("days", [50] * 13), ("dig", 0, 0), ("field_at", 0)], [2, 0, 300, 0])
        self.check(ONE + [("days", [50] * 14), ("dig", 0, 0)], [49500, 0, 300000, 0])
        self.check(ONE + [("days", [50] * 20), ("dig", 0, 0), ("field_at", 0)], [3, 0, 300, 0])

    def test_another_week_than_planned(self):
        calls = ONE + [("plan", 0, 2), ("dig", 0, 0)]
        self.check(calls, [45000, 0, 300000, 0])
        self.check(calls + [("room", 2)], [500, 0, 0])
        self.check(calls + [("room", 0)], [700, 300, 0])

    def test_earth(self):
        one = [START, ("grower", 1), ("field", 0, 1, [1777, 0, 0])]
        self.check(one + [("dig", 0, 333)], [118, 0, 667, 0])
        self.check(one + [("dig", 0, 1000)], [0, 0, 0, 0])
        self.check(one + [("dig", 0, 1000), ("heap", 0)], [0, 0, 0, 0, 0])
        self.check(one + [("dig", 0, 999)], [0, 0, 1, 0])

    def test_clamps_are_numbered_as_they_are_dug(self):
        calls = [START, ("grower", 1), ("grower", 1), ("field", 0, 1, [10, 0, 0]), ("field", 1, 2, [10, 0, 0]),
                 ("dig", 1, 0), ("dig", 0, 0), ("heap", 0), ("heap", 1)]
        self.assertEqual(ask(calls)[-4:], [[2, 0, 2000, 0], [1, 1, 1000, 0], [2, 2000, 0, 0, 1], [1, 1000, 0, 0, 0]])

    def test_just_the_room(self):
        exact = [("start", [300]), ("grower", 1), ("field", 0, 300, [10]), ("field", 0, 1, [10])]
        self.check(exact + [("dig", 0, 0)], [300, 0, 300000, 0])
        self.check_refused(exact + [("dig", 0, 0)], ("dig", 1, 0), -33)
        self.check_refused(exact + [("dig", 1, 0)], ("dig", 0, 0), -33)

    def test_refused(self):
        self.check_refused(ONE, ("dig", 0, 1001), -22)
        self.check_refused(ONE, ("dig", 0, MOST), -22)
        self.check_refused(ONE + [("dig", 0, 0)], ("dig", 0, 0), -17)
        self.check_refused([("start", [299]), ("grower", 1), ("field", 0, 300, [9])], ("dig", 0, 0), -33)
        self.check_refused(ONE + [("days", [50] * 21)], ("dig", 0, 0), -33)

    def test_order_of_refusals(self):
        over = [("days", [50] * 21)]
        self.check_refused(ONE + [("dig", 0, 0)] + over, ("dig", 0, 1001), -17)
        self.check_refused(ONE + over, ("dig", 0, 1001), -22)
        self.check_refused(ONE + over, ("dig", 1, 1001), -2)


if __name__ == "__main__":
    unittest.main()
