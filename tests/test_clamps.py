import random
import unittest
from itertools import permutations

from calling import MOST, CallTest, ask, last

FIRST = [("start", [30000] * 6), ("grower", 1), ("grower", 1)]


def heaps_of(tons, held=2000):
    """A clamp each, of so many tons; 200 kilograms of sugar a ton."""
    calls = FIRST + [("field", f % 2, amount, [held] * 6) for f, amount in enumerate(tons)]
    return calls + [("dig", f, 0) for f in range(len(tons))]


ONE = heaps_of([500])
FROZEN = ONE + [("day", 46)]


def rate(frozen, covered, warmth):
    """What the document says is lost of ten thousand; frozen: that day."""
    if frozen:
        return 200 if warmth > 50 else 0
    return 3 + (warmth - 50 if warmth > 50 else 0) + (2 if covered else 0)


def gone_on(sugar, covered, frozen, warmth):
    """What's left behind a day, and if it's frozen."""
    frozen = frozen or warmth <= (40 if covered else 46)
    return sugar - sugar * rate(frozen, covered, warmth) // 10000, frozen


class DayTest(CallTest):
    def test_warmth(self):
        # 100000 kilograms of sugar: ten for each of ten thousand.
        for warmth, lost in ((100, 530), (60, 130), (51, 40), (50, 30), (47, 30), (46, 0), (0, 0)):
            self.check(ONE + [("day", warmth)], [lost, 1])

    def test_covered(self):
        for warmth, lost in ((100, 550), (51, 60), (50, 50), (46, 50), (41, 50), (40, 0), (0, 0)):
            self.check(ONE + [("cover", 0), ("day", warmth)], [lost, 1])

    def test_frozen(self):
        for warmth, lost in ((100, 2000), (51, 2000), (50, 0), (0, 0)):
            self.check(FROZEN + [("day", warmth)], [lost, 2])
            self.check(FROZEN + [("cover", 0), ("day", warmth)], [lost, 2])

    def test_freezes_at(self):
        for warmth, frozen in ((47, 0), (46, 1), (0, 1)):
            self.assertEqual(last(ONE + [("day", warmth), ("heap", 0)])[3], frozen)
        for warmth, frozen in ((41, 0), (40, 1), (0, 1)):
            self.assertEqual(last(ONE + [("cover", 0), ("day", warmth), ("heap", 0)])[3], frozen)

    def test_frozen_it_stays(self):
        self.check(FROZEN + [("day", 100), ("heap", 0)], [98000, 500000, 0, 1, 0])
        self.check(FROZEN + [("cover", 0), ("day", 50), ("uncover", 0), ("heap", 0)], [100000, 500000, 0, 1, 0])

    def test_covered_ahead_of_a_frost(self):
        self.check(ONE + [("cover", 0), ("day", 45), ("heap", 0)], [99950, 500000, 1, 0, 0])
        self.check(ONE + [("day", 45), ("cover", 0), ("heap", 0)], [100000, 500000, 1, 1, 0])
        self.check(ONE + [("cover", 0), ("day", 45), ("uncover", 0), ("day", 45), ("heap", 0)],
                   [99950, 500000, 0, 1, 0])

    def test_over_all_clamps(self):
        calls = heaps_of([500, 50, 5]) + [("cover", 1)]
        self.check(calls + [("day", 50)], [30 + 5 + 0, 1])
        told = ask(calls + [("day", 44), ("heap", 0), ("heap", 1), ("heap", 2)])
        self.assertEqual(told[-4:], [[5, 1], [100000, 500000, 0, 1, 0], [9995, 50000, 1, 0, 1], [1000, 5000, 0, 1, 0]])

    def test_rounded_down_each_day(self):
        calls = heaps_of([16], 2083)
        self.check(calls, [3332, 0, 16000, 0])
        self.check(calls + [("day", 50)], [0, 1])
        self.check(calls + [("day", 51)], [1, 1])
        self.check(calls + [("days", [50] * 30)], [0, 30])

    def test_no_clamps(self):
        self.check(FIRST + [("day", 100)], [0, 1])

    def test_an_empty_clamp_freezes_as_well(self):
        self.check(ONE + [("haul", 0, 500000), ("day", 46), ("heap", 0)], [0, 0, 0, 1, 0])

    def test_refused(self):
        self.check_refused(ONE, ("day", 101), -22)
        self.check_refused(ONE, ("day", MOST), -22)

    def test_day_400(self):
        late = ONE + [("days", [50] * 30)] * 13 + [("days", [50] * 9)]
        self.assertEqual(last(late)[1], 399)
        self.assertEqual(last(late + [("day", 50)])[1], 400)
        end = late + [("day", 50)]
        self.check_refused(end, ("day", 50), -28)
        self.check_refused(end, ("day", 101), -22)


class DaysTest(CallTest):
    def test_one_by_one_are_days_at_once(self):
        source = random.Random(2)
        for trial in range(20):
            days = [source.choice((0, 38, 40, 43, 46, 48, 50, 55, 70, 100)) for day in range(source.randint(0, 25))]
            calls = heaps_of([500, 77, 3]) + [("cover", 1)]
            tells = [("heap", 0), ("heap", 1), ("heap", 2), ("room", 0), ("room", 1)]
            single = ask(calls + [("day", warmth) for warmth in days] + tells)
            together = ask(calls + [("days", days)] + tells)
            self.assertEqual(single[-5:], together[-5:])
            lost = sum(told[0] for told in single[len(calls):-5])
            self.assertEqual(together[len(calls)], [lost, len(days)])

    def test_sum_of_losses(self):
        # 30 of 100000, then 129 of 99970, then none.
        self.check(ONE + [("days", [50, 60, 46])], [159, 3])

    def test_none_and_most(self):
        self.check(ONE + [("day", 50), ("days", [])], [0, 1])
        self.check(FIRST + [("days", [100] * 30)], [0, 30])

    def test_refused(self):
        for days in ([50] * 31, [50] * 34, [101], [50, 101], [101, 50], [MOST], [50] * 29 + [101]):
            self.check_refused(ONE, ("days", days), -22)

    def test_day_400(self):
        late = ONE + [("days", [50] * 30)] * 13
        self.assertEqual(last(late + [("days", [50] * 10)])[1], 400)
        self.check_refused(late, ("days", [50] * 11), -28)
        self.check_refused(late, ("days", [50] * 10 + [101]), -22)
        self.check_refused(late, ("days", [50] * 31), -22)
        end = late + [("days", [50] * 10)]
        self.check(end + [("days", [])], [0, 400])
        self.check_refused(end, ("days", [50]), -28)
        self.check_refused(end, ("days", [101]), -22)


class CoverTest(CallTest):
    def test_cover_and_uncover(self):
        self.check_all(list(zip(ONE, ask(ONE))) + [
            (("cover", 0), [0]), (("heap", 0), [100000, 500000, 1, 0, 0]), (("cover", 0), [-17]),
            (("uncover", 0), [0]), (("heap", 0), [100000, 500000, 0, 0, 0]), (("uncover", 0), [-17])])

    def test_one_of_several(self):
        calls = heaps_of([1, 1, 1]) + [("cover", 1)]
        self.assertEqual([last(calls + [("heap", k)])[2] for k in range(3)], [0, 1, 0])

    def test_refused(self):
        self.check_refused(ONE + [("cover", 0)], ("cover", 0), -17)
        self.check_refused(ONE, ("uncover", 0), -17)

    def test_absent(self):
        for call in (("cover", 1), ("uncover", 1), ("heap", 1), ("lose", 1, 101), ("when_cover", 1, [101]),
                     ("haul", 1, 0), ("cover", MOST), ("uncover", MOST), ("heap", MOST), ("lose", MOST, 0),
                     ("when_cover", MOST, []), ("haul", MOST, 1)):
            self.check_refused(ONE, call, -2)
            self.check_refused(FIRST, call, -2)


class HeapsTest(CallTest):
    def test_those_that_have_beets(self):
        calls = heaps_of([1, 2, 3])
        self.check(FIRST + [("heaps",)], [0])
        self.check(calls + [("heaps",)], [3, 0, 1, 2])
        self.check(calls + [("haul", 1, 2000), ("heaps",)], [2, 0, 2])
        self.check(calls + [("haul", 1, 1999), ("heaps",)], [3, 0, 1, 2])

    def test_nothing_but_earth(self):
        calls = FIRST + [("field", 0, 5, [2000] * 6), ("field", 0, 5, [0] * 6), ("dig", 0, 1000), ("dig", 1, 0)]
        self.check(calls + [("heaps",)], [1, 1])
        self.check(calls + [("heap", 1)], [0, 5000, 0, 0, 0])

    def test_frost(self):
        calls = heaps_of([1, 2, 3, 4]) + [("cover", 2)]
        self.check(calls + [("frost",)], [0])
        self.check(calls + [("day", 46), ("frost",)], [3, 0, 1, 3])
        self.check(calls + [("day", 46), ("haul", 1, 2000), ("frost",)], [2, 0, 3])
        self.check(calls + [("day", 40), ("frost",)], [4, 0, 1, 2, 3])
        self.check(calls + [("day", 46), ("day", 100), ("frost",)], [3, 0, 1, 3])

    def test_dug_behind_a_frost(self):
        calls = FIRST + [("field", 0, 1, [9] * 6), ("day", 0), ("dig", 0, 0)]
        self.check(calls + [("frost",)], [0])


class LoseTest(CallTest):
    def test_would_be_lost(self):
        for frozen, covered in ((0, 0), (0, 1), (1, 0), (1, 1)):
            calls = (FROZEN if frozen else ONE) + [("cover", 0)] * covered
            for warmth in range(101):
                cold = frozen or warmth <= (40 if covered else 46)
                part = rate(cold, covered, warmth)
                self.check(calls + [("lose", 0, warmth)], [100000 * part // 10000, part, int(bool(cold))])

    def test_told(self):
        self.check(ONE + [("lose", 0, 60)], [130, 13, 0])
        self.check(ONE + [("lose", 0, 46)], [0, 0, 1])
        self.check(heaps_of([1]) + [("lose", 0, 100)], [1, 53, 0])

    def test_only_told(self):
        self.check(ONE + [("lose", 0, 46), ("lose", 0, 100), ("heap", 0)], [100000, 500000, 0, 0, 0])

    def test_refused(self):
        self.check_refused(ONE, ("lose", 0, 101), -22)
        self.check_refused(ONE, ("lose", 0, MOST), -22)


def left_by_first_day(sugar, frozen, days):
    """What's left, covered from each day on, and never."""
    told = []
    for first in range(len(days) + 1):
        left, cold = sugar, frozen
        for day, warmth in enumerate(days):
            left, cold = gone_on(left, day >= first, cold, warmth)
        told.append(left)
    return told


class WhenCoverTest(CallTest):
    def test_never(self):
        self.check(ONE + [("when_cover", 0, [60, 60])], [2, 99741])
        self.check(ONE + [("when_cover", 0, [46, 46])], [1, 100000])

    def test_no_days(self):
        self.check(ONE + [("when_cover", 0, [])], [0, 100000])

    def test_ahead_of_a_frost(self):
        # Uncovered it freezes on day 1, and loses 2000 of 100000 on day 2.
        self.check(ONE + [("when_cover", 0, [50, 45, 60])], [1, 99772])

    def test_of_like_ones_the_first(self):
        self.check(FROZEN + [("when_cover", 0, [50, 60, 50])], [0, 98000])
        self.check(ONE + [("when_cover", 0, [40, 50])], [0, 100000])

    def test_a_covered_clamp_is_told_as_uncovered_at_first(self):
        self.check(ONE + [("cover", 0), ("when_cover", 0, [60, 60])], [2, 99741])

    def test_only_told(self):
        self.check(ONE + [("when_cover", 0, [0, 100]), ("heap", 0)], [100000, 500000, 0, 0, 0])
        self.check(ONE + [("cover", 0), ("when_cover", 0, [0]), ("heap", 0)], [100000, 500000, 1, 0, 0])

    def test_against_all_days(self):
        source = random.Random(3)
        for trial in range(60):
            days = [source.choice((30, 42, 45, 48, 50, 51, 56)) for day in range(source.randint(0, 30))]
            for calls, frozen in ((ONE, False), (FROZEN, True)):
                left = left_by_first_day(100000, frozen, days)
                self.check(calls + [("when_cover", 0, days)], [left.index(max(left)), max(left)])

    def test_refused(self):
        for days in ([50] * 31, [101], [50, 101], [MOST] * 34):
            self.check_refused(ONE, ("when_cover", 0, days), -22)
        self.assertEqual(len(last(ONE + [("when_cover", 0, [100] * 30)])), 2)


class OrderTest(CallTest):
    def test_none(self):
        self.check(FIRST + [("order", [60])], [0, 0])
        self.check(ONE + [("haul", 0, 500000), ("order", [])], [0, 0])

    def test_one(self):
        self.check(ONE + [("order", [100])], [100000, 1, 0])

    def test_most_sugar_first(self):
        # The larger one first: 130 of the 100000 would be lost, 65 of the 50000 are.
        self.check(heaps_of([250, 500]) + [("order", [60])], [149935, 2, 1, 0])

    def test_frozen_ahead_of_a_thaw(self):
        calls = heaps_of([300, 200]) + [("cover", 0), ("day", 46)]
        self.check(calls + [("heap", 0)], [59970, 300000, 1, 0, 0])
        self.check(calls + [("order", [55])], [59970 - 59 + 40000, 2, 1, 0])

    def test_of_like_ones_the_lesser_clamp(self):
        self.check(heaps_of([9, 9, 9]) + [("order", [60, 60])], [5400 - 2 - 4, 3, 0, 1, 2])
        self.check(heaps_of([5, 7, 6]) + [("order", [])], [3600, 3, 0, 1, 2])
        self.check(heaps_of([5, 500, 50]) + [("order", [60])], [111000 - 13 - 1, 3, 1, 0, 2])

    def test_behind_the_last_day_nothing_is_lost(self):
        self.check(heaps_of([500, 500, 500]) + [("order", [60])], [300000 - 260, 3, 0, 1, 2])

    def test_the_first_five_that_have_beets(self):
        calls = heaps_of([10, 20, 30, 40, 50, 60])
        self.check(calls + [("order", [])], [30000, 5, 0, 1, 2, 3, 4])
        self.check(calls + [("haul", 1, 20000), ("order", [])], [38000, 5, 0, 2, 3, 4, 5])
        self.check(calls + [("haul", 5, 60000), ("haul", 0, 10000), ("order", [])], [28000, 4, 1, 2, 3, 4])

    def test_only_told(self):
        self.check(ONE + [("order", [0, 100]), ("heap", 0)], [100000, 500000, 0, 0, 0])

    def test_against_all_orders(self):
        source = random.Random(4)
        for trial in range(40):
            tons = [source.randint(1, 40) * 50 for heap in range(source.randint(1, 6))]
            covered = [k for k in range(len(tons)) if source.random() < 0.5]
            before = heaps_of(tons) + [("cover", k) for k in covered] + [("day", source.choice((45, 50)))]
            days = [source.choice((39, 45, 50, 60, 90)) for day in range(source.randint(0, 6))]
            heaps = [last(before + [("heap", k)]) for k in range(len(tons))][:5]
            worth = []
            for sugar, beets, cover, cold, grower in heaps:
                told = [sugar]
                for place in range(4):
                    if place < len(days):
                        sugar, cold = gone_on(sugar, cover, cold, days[place])
                    told.append(sugar)
                worth.append(told)
            best = min((-sum(worth[k][day] for day, k in enumerate(order)), order)
                       for order in permutations(range(len(worth))))
            self.assertEqual(last(before + [("order", days)]), [-best[0], len(worth)] + list(best[1]))

    def test_refused(self):
        for days in ([50] * 31, [101], [MOST] * 34, [50] * 5 + [101]):
            self.check_refused(ONE, ("order", days), -22)
        self.check(ONE + [("order", [100] * 30)], [100000, 1, 0])


class HaulTest(CallTest):
    def test_part(self):
        calls = heaps_of([1], 1777)
        self.check(calls + [("haul", 0, 333)], [58, 58])
        self.check(calls + [("haul", 0, 333), ("heap", 0)], [119, 667, 0, 0, 0])

    def test_all(self):
        calls = heaps_of([1], 1777) + [("haul", 0, 1000)]
        self.check(calls, [177, 177])
        self.check(calls + [("heap", 0)], [0, 0, 0, 0, 0])

    def test_last_kilogram(self):
        calls = heaps_of([1], 1777) + [("haul", 0, 999)]
        self.check(calls, [176, 176])
        self.check(calls + [("haul", 0, 1)], [1, 177])
        self.check(calls + [("haul", 0, 1), ("heaps",)], [0])

    def test_of_what_is_left_by_then(self):
        calls = ONE + [("day", 100), ("haul", 0, 250000)]
        self.check(calls, [49735, 49735])
        self.check(calls + [("day", 100), ("haul", 0, 250000)], [49735 - 263, 99207])

    def test_from_several(self):
        calls = heaps_of([1, 2]) + [("haul", 1, 1000), ("haul", 0, 1)]
        self.assertEqual(ask(calls)[-2:], [[200, 200], [0, 200]])

    def test_refused(self):
        self.check_refused(ONE, ("haul", 0, 0), -22)
        self.check_refused(ONE, ("haul", 0, 500001), -33)
        self.check_refused(ONE, ("haul", 0, MOST), -33)
        empty = ONE + [("haul", 0, 500000)]
        self.check_refused(empty, ("haul", 0, 1), -33)
        self.check_refused(empty, ("haul", 0, 0), -22)

    def test_a_clamp_of_no_beets(self):
        earth = FIRST + [("field", 0, 5, [2000] * 6), ("dig", 0, 1000)]
        self.check_refused(earth, ("haul", 0, 1), -33)
        self.check_refused(earth, ("haul", 0, 0), -22)


class NoSugarIsLeftBehindTest(unittest.TestCase):
    def test_hauled_in_whatever_parts(self):
        source = random.Random(6)
        for trial in range(30):
            calls = heaps_of([source.randint(1, 5)], source.randint(0, 2500))
            sugar = last(calls)[0]
            left = last(calls)[2]
            while left:
                part = min(left, source.choice((1, 7, 333, 1000)))
                if len(calls) == 100:
                    part = left
                calls.append(("haul", 0, part))
                left -= part
            told = ask(calls + [("heap", 0)])
            self.assertEqual(told[-1][:2], [0, 0])
            self.assertEqual(told[-2][1], sugar)


if __name__ == "__main__":
    unittest.main()
