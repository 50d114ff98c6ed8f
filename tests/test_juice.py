import random
import unittest
from fractions import Fraction

from calling import MOST, CallTest, ask, juice_calls, last, thin_calls
from beetcampaign.campaign import Campaign
from beetcampaign.filters import Filters, best_cycle
from beetcampaign.juice import Juice, best_lime

START = [("start", [30000])]


def down(amount):
    """A fraction rounded down."""
    return amount.numerator // amount.denominator


def told_of(sugar, others):
    """What is told of a juice, by the document's words."""
    purity = down(Fraction(sugar * 10000, sugar + others)) if sugar + others else 0
    return [purity, sugar, others, max(0, sugar - down(Fraction(3 * others, 2)))]


def limed(sugar, others, lime):
    gone = down(sugar * Fraction(lime, 100000))
    cake = down(others * Fraction(min(lime, 200), 500))
    return sugar - gone, others - cake


class ToldTest(CallTest):
    def test_nothing(self):
        for call in ("raw", "thin", "green", "molasses"):
            self.check(START + [(call,)], [0, 0, 0, 0])

    def test_purity_and_what_is_to_be_had(self):
        # 100 of sugar with 15 of other things: 22 are not to be had.
        self.check(juice_calls(100, 150) + [("raw",)], [8695, 100, 15, 78])
        self.check(juice_calls(100, 300, 3) + [("raw",)], [7692, 300, 90, 165])
        self.check(juice_calls(10, 100) + [("raw",)], [9090, 10, 1, 9])

    def test_sugar_alone(self):
        self.check(juice_calls(100, 0) + [("raw",)], [10000, 100, 0, 100])
        self.check(juice_calls(100, 9) + [("raw",)], [10000, 100, 0, 100])

    def test_nothing_to_be_had(self):
        for sugar, others, had in ((15, 10, 0), (16, 10, 1), (14, 10, 0), (16, 11, 0), (17, 11, 1), (0, 9, 0)):
            self.assertEqual(Juice(sugar, others).to_be_had(), had)
            self.assertEqual(Juice(sugar, others).to_be_had(), told_of(sugar, others)[3])
        self.assertEqual(Juice(0, 9).purity(), 0)
        self.assertEqual(Juice(2, 1).purity(), 6666)
        self.assertEqual(Juice(1, 0).purity(), 10000)
        self.assertEqual(Juice(0, 1).purity(), 0)

    def test_raw_juice_comes_from_the_tower(self):
        before = juice_calls(100, 150, 3)[:-1]
        told = ask(before + [("tower", 1), ("raw",), ("tower", 1), ("raw",), ("tower", 2), ("raw",), ("tower", 9), ("raw",)])
        self.assertEqual(told[-7::2], [[0, 0, 0, 0], told_of(100, 15), told_of(300, 45), told_of(300, 45)])

    def test_dirt_is_of_each_tick(self):
        # Of 3 drawn in a tick come no other things, though of all together some would.
        self.check(juice_calls(3, 300, 10) + [("raw",)], [10000, 30, 0, 30])
        self.check(juice_calls(4, 300, 10) + [("raw",)], [8000, 40, 10, 25])


class LimeTest(CallTest):
    def test_what_was_set(self):
        self.check_all([(START[0], [0]), (("lime", 300), [0]), (("lime", 0), [300]), (("lime", 7), [0]),
                        (("lime", 7), [7])])

    def test_refused(self):
        before = juice_calls(1000, 200) + [("lime", 30), ("filters", 3, 2, 1)]
        for lime in (301, MOST):
            self.check_refused(before, ("lime", lime), -22)
            self.check_refused(before, ("would_lime", lime), -22)
            self.check_refused(START, ("would_lime", lime), -22)
        self.check(before + [("lime", 301), ("lime", 1)], [30])

    def test_would_lime(self):
        before = juice_calls(5000, 200)
        for lime, sugar, others in ((0, 5000, 1000), (1, 5000, 998), (19, 5000, 962), (20, 4999, 960), (199, 4991, 602),
                                    (200, 4990, 600), (201, 4990, 600), (300, 4985, 600)):
            self.check(before + [("would_lime", lime)], told_of(sugar, others))
        self.check(before + [("would_lime", 300), ("raw",)], told_of(5000, 1000))

    def test_what_was_set_does_not_matter_to_what_would_be(self):
        self.check(juice_calls(5000, 200) + [("lime", 100), ("would_lime", 200)], told_of(4990, 600))

    def test_no_juice(self):
        self.check(START + [("would_lime", 300)], [0, 0, 0, 0])
        self.check(START + [("best_lime",)], [0, 0])

    def test_rounded_down(self):
        for sugar, others, lime in ((99999, 499, 1), (100000, 500, 1), (99999, 2, 200), (333, 3, 299), (334, 1, 300)):
            juice = Juice(sugar, others).limed(lime)
            self.assertEqual((juice.sugar, juice.others), limed(sugar, others, lime))


class BestLimeTest(CallTest):
    def test_sugar_alone_needs_none(self):
        self.check(juice_calls(100, 0) + [("best_lime",)], [0, 100])
        self.check(juice_calls(5000, 0, 3) + [("best_lime",)], [0, 15000])

    def test_dirty_juice(self):
        # Above 200 no more of the other things goes, but sugar does.
        self.check(juice_calls(5000, 200) + [("best_lime",)], [200, 4990 - 900])

    def test_the_least_of_like_ones(self):
        # Of 5 other things 1 goes with 100, 2 with 200: 7, 6, 4 are not to be had.
        self.check(juice_calls(50, 100) + [("would_lime", 100)], told_of(50, 4))
        self.check(juice_calls(50, 100) + [("best_lime",)], [200, 46])
        self.check(juice_calls(20, 100) + [("raw",)], told_of(20, 2))
        self.check(juice_calls(20, 100) + [("best_lime",)], [0, 17])

    def test_nothing_to_be_had_at_all(self):
        self.assertEqual(best_lime(Juice(10, 100)), (0, 0))
        self.assertEqual(best_lime(Juice(0, 0)), (0, 0))

    def test_against_all_limes(self):
        source = random.Random(21)
        for trial in range(60):
            sugar, others = source.randint(0, 3000000), source.choice((0, 7, 300, 9000, 500000))
            had = [told_of(*limed(sugar, others, lime))[3] for lime in range(301)]
            self.assertEqual(best_lime(Juice(sugar, others)), (had.index(max(had)), max(had)))

    def test_above_the_use_of_lime_is_never_best(self):
        self.assertEqual(best_lime(Juice(0, 5000)), (0, 0))
        self.assertEqual(best_lime(Juice(99999, 5000))[0], 200)


class FiltersTest(CallTest):
    def test_how_many_there_were(self):
        self.check_all([(START[0], [0]), (("filters", 1, 1, 1), [0]), (("filters", 20, 1000, 6), [1]),
                        (("filters", 3, 4, 2), [6]), (("filters_at",), [2000, 2, 0, 0, 0, 0])])

    def test_refused(self):
        wrong = ((0, 4, 2), (21, 4, 2), (3, 0, 2), (3, 1001, 2), (3, 4, 0), (3, 4, 7), (MOST, 4, 2), (3, MOST, 2),
                 (3, 4, MOST))
        before = juice_calls(3000, 100) + [("filters", 2, 3, 2), ("filter", 4)]
        for given in wrong:
            self.check_refused(before, ("filters",) + given, -22)
            self.check_refused(START, ("filters",) + given, -22)

    def test_none_at_first(self):
        self.check(START + [("filters_at",)], [0, 0])

    def test_told_again_all_are_clean(self):
        before = juice_calls(3000, 100) + [("filters", 5, 2, 2), ("filter", 3)]
        self.check(before + [("filters_at",)], [10000 // 13, 2, 2, 4, 3, 0])
        self.check(before + [("filters", 5, 2, 2), ("filters_at",)], [2000, 2, 0, 0, 0, 0])

    def test_ticks_of_washing(self):
        before = START + [("filters", 2, 2, 2)]
        rows = [[2000, 2, 0, 0, 0, 0], [1818, 2, 1, 0, 1, 0], [833, 2, 2, 2, 2, 0], [769, 2, 2, 1, 3, 0],
                [1000, 2, 0, 0, 4, 2], [909, 2, 1, 0, 4, 1], [1000, 2, 2, 2, 0, 0], [909, 2, 2, 1, 1, 0],
                [1000, 2, 0, 0, 2, 2]]
        told = ask(before + [("filters_at",)] + [("filter", 1), ("filters_at",)] * 8)
        self.assertEqual(told[2::2], rows)

    def test_washed_for_one_tick_at_limit_one(self):
        before = START + [("filters", 1, 1, 1)]
        told = ask(before + [("filter", 1), ("filters_at",)] * 3)
        self.assertEqual(told[3::2], [[0, 1, 1, 1], [1000, 1, 0, 0], [0, 1, 1, 1]])

    def test_greatest_limit(self):
        before = START + [("filters", 20, 1000, 1)] + [("filter", 60)] * 16 + [("filter", 39)]
        self.check(before + [("filters_at",)], [9, 1, 999, 0])
        self.check(before + [("filter", 1), ("filters_at",)], [0, 1, 1000, 20])
        self.check(before + [("filter", 20), ("filters_at",)], [0, 1, 1000, 1])
        self.check(before + [("filter", 21), ("filters_at",)], [1000, 1, 0, 0])

    def test_at_most_one_is_washed(self):
        source = random.Random(22)
        for trial in range(20):
            wash, limit, count = source.randint(1, 6), source.randint(1, 9), source.randint(1, 6)
            told = ask([START[0], ("filters", wash, limit, count)] + [("filter", 1), ("filters_at",)] * 70)
            for row in told[3::2]:
                self.assertLessEqual(sum(1 for left in row[3::2] if left > 0), 1)
                flow = sum(10000 // (10 + cake) for cake, left in zip(row[2::2], row[3::2]) if left == 0)
                self.assertEqual(row[:2], [flow, count])


class FilterTest(CallTest):
    def test_refused(self):
        before = juice_calls(3000, 100) + [("filters", 2, 3, 2), ("filter", 4)]
        for ticks in (0, 61, MOST):
            self.check_refused(before, ("filter", ticks), -22)
            self.check_refused(START, ("filter", ticks), -22)
        self.check_refused(juice_calls(3000, 100), ("filter", 1), -6)
        self.check_refused(START, ("filter", 60), -6)

    def test_one_tick(self):
        # 1,000 of 5,000 and 1,000, evenly: 833 of sugar.
        before = juice_calls(5000, 200) + [("filters", 1, 1000, 1), ("filter", 1)]
        self.check(before, [1000, 833, 167])
        self.check(before + [("thin",)], told_of(833, 167))
        self.check(before + [("raw",)], told_of(4167, 833))
        self.check(before + [("filter", 1)], [909, 909 * 4167 // 5000, 909 - 909 * 4167 // 5000])

    def test_limed(self):
        before = juice_calls(5000, 200) + [("filters", 1, 1000, 6), ("lime", 200), ("filter", 1)]
        # All 6,000 go through: of 5,000 ten are gone, of 1,000 four hundred are cake.
        self.check(before, [6000, 4990, 600])
        self.check(before + [("thin",)], told_of(4990, 600))
        self.check(before + [("raw",)], [0, 0, 0, 0])
        self.check(before + [("sums",)], [7500, 0, 0, 0, 0, 2500, 0, 10, 4990, 0, 0, 0, 0])
        self.check(before + [("others",)], [1000, 0, 400, 600, 0, 0])

    def test_limed_above_its_use(self):
        before = juice_calls(5000, 200) + [("filters", 1, 1000, 6), ("lime", 300), ("filter", 1)]
        self.check(before, [6000, 4985, 600])

    def test_each_tick_is_limed_by_itself(self):
        # Of 1,000 kilograms of sugar lime 50 takes none, though of 5,000 it would take 2.
        before = juice_calls(5000, 0) + [("filters", 1, 1000, 1), ("lime", 50), ("filter", 7)]
        self.check(before, [5000, 5000, 0])
        at_once = juice_calls(5000, 0) + [("filters", 1, 1000, 6), ("lime", 50), ("filter", 1)]
        self.check(at_once, [5000, 4998, 0])

    def test_more_would_flow_than_there_is(self):
        before = juice_calls(100, 100) + [("filters", 1, 1000, 6)]
        self.check(before + [("filter", 1)], [110, 100, 10])
        self.check(before + [("filter", 60)], [110, 100, 10])
        self.check(before + [("filter", 60), ("filter", 60)], [0, 0, 0])
        self.check(before + [("filter", 1), ("raw",)], [0, 0, 0, 0])
        self.check(before + [("filters_at",)], [6000, 6] + [0, 0] * 6)

    def test_without_juice_the_cake_grows_too(self):
        self.check(START + [("filters", 1, 1000, 1), ("filter", 60)], [0, 0, 0])
        self.check(START + [("filters", 1, 1000, 1), ("filter", 60), ("filters_at",)], [142, 1, 60, 0])

    def test_a_filter_that_is_washed_lets_nothing_through(self):
        before = juice_calls(5000, 0) + [("filters", 2, 1, 1)]
        told = ask(before + [("filter", 1)] * 5)
        self.assertEqual(told[-5:], [[1000, 1000, 0], [0, 0, 0], [0, 0, 0], [1000, 1000, 0], [0, 0, 0]])
        self.check(before + [("filter", 4)], [2000, 2000, 0])

    def test_ticks_one_by_one_are_ticks_at_once(self):
        before = juice_calls(6000, 170, 9) + [("filters", 3, 4, 2), ("lime", 77)]
        tells = [("raw",), ("thin",), ("filters_at",), ("sums",), ("others",)]
        single = ask(before + [("filter", 1)] * 25 + tells)
        together = ask(before + [("filter", 25)] + tells)
        self.assertEqual(single[-5:], together[-5:])
        ticks = single[len(before):-5]
        self.assertEqual(together[-6], [sum(told[place] for told in ticks) for place in range(3)])

    def test_against_one_filter_after_another(self):
        source = random.Random(23)
        for trial in range(30):
            sugar, dirt = source.choice((37, 900, 6667)), source.choice((0, 3, 111, 300))
            lime, ticks = source.choice((0, 1, 99, 200, 201, 300)), source.randint(1, 60)
            wash, limit, count = source.randint(1, 9), source.choice((1, 3, 8, 1000)), source.randint(1, 6)
            calls = juice_calls(sugar, dirt, 8) + [("lime", lime), ("filters", wash, limit, count), ("filter", ticks)]
            raw, thin = [sugar * 8, sugar * dirt // 1000 * 8], [0, 0]
            rows = [[0, 0] for place in range(count)]
            went = 0
            for tick in range(ticks):
                flow = sum(10000 // (10 + cake) for cake, left in rows if left == 0)
                kilograms = min(flow, sum(raw))
                part = down(Fraction(kilograms * raw[0], sum(raw))) if kilograms else 0
                clear = limed(part, kilograms - part, lime)
                raw = [raw[0] - part, raw[1] - kilograms + part]
                thin = [thin[0] + clear[0], thin[1] + clear[1]]
                went += kilograms
                rows = [[cake + 1, 0] if left == 0 else [cake, left - 1] if left > 1 else [0, 0] for cake, left in rows]
                full = [row for row in rows if row[0] >= limit]
                if full and not any(left for cake, left in rows):
                    full[0][1] = wash
            told = ask(calls + [("raw",), ("thin",), ("filters_at",)])
            self.assertEqual(told[-4:-1], [[went] + thin, told_of(*raw), told_of(*thin)])
            self.assertEqual(told[-1][2:], [number for row in rows for number in row])


class EvenlyTest(unittest.TestCase):
    def test_parts(self):
        for sugar, others, kilograms, part in ((10, 5, 1, (0, 1)), (10, 5, 3, (2, 1)), (10, 5, 14, (9, 5)),
                                               (10, 5, 15, (10, 5)), (10, 5, 16, (10, 5)), (10, 0, 7, (7, 0)),
                                               (0, 9, 7, (0, 7)), (0, 0, 7, (0, 0)), (1, 1, 1, (0, 1))):
            juice = Juice(sugar, others)
            told = juice.part(kilograms)
            self.assertEqual((told.sugar, told.others), part)
            self.assertEqual((juice.sugar, juice.others), (sugar, others))

    def test_never_more_than_there_is(self):
        for sugar in range(9):
            for others in range(9):
                for kilograms in range(sugar + others + 2):
                    part = Juice(sugar, others).part(kilograms)
                    self.assertLessEqual(part.sugar, sugar)
                    self.assertLessEqual(part.others, others)
                    self.assertEqual(part.weight(), min(kilograms, sugar + others))


class CycleTest(CallTest):
    def test_one_tick_of_washing_at_first(self):
        # 1,000 over two ticks; 1,909 over three; 2,742 over four; 3,511 over five; 4,225 over six; 4,891 over seven.
        self.check(START + [("best_cycle",)], [5, 4225])
        self.check(START + [("filters", 1, 9, 3), ("best_cycle",)], [5, 4225])

    def test_by_the_ticks_that_are_told(self):
        for wash in range(1, 21):
            through = [sum(10000 // (10 + cake) for cake in range(ticks)) for ticks in range(61)]
            brings = [Fraction(through[ticks], ticks + wash) for ticks in range(61)]
            best = brings.index(max(brings))
            self.check(START + [("filters", wash, 5, 1), ("best_cycle",)], [best, through[best]])
            self.assertEqual(best_cycle(wash), (best, through[best]))

    def test_the_last_told_are_those(self):
        self.assertEqual(last(START + [("filters", 20, 5, 1), ("filters", 2, 5, 1), ("best_cycle",)]),
                         last(START + [("filters", 2, 5, 1), ("best_cycle",)]))
        self.assertEqual(last(START + [("filters", 2, 5, 1), ("filters", 21, 5, 1), ("best_cycle",)]),
                         last(START + [("filters", 2, 5, 1), ("best_cycle",)]))


class RowOfFiltersTest(unittest.TestCase):
    def test_the_first_at_the_limit_is_washed(self):
        filters = Filters(3, 4, 7)
        filters.cakes = [5, 6, 9]
        filters.tick()
        self.assertEqual((filters.cakes, filters.washing), ([6, 7, 10], [0, 4, 0]))
        filters.tick()
        self.assertEqual((filters.cakes, filters.washing), ([7, 7, 11], [0, 3, 0]))

    def test_the_next_is_washed_in_the_tick_in_which_one_is_clean(self):
        filters = Filters(2, 4, 7)
        filters.cakes = [8, 9]
        filters.washing = [1, 0]
        filters.tick()
        self.assertEqual((filters.cakes, filters.washing), ([0, 10], [0, 4]))

    def test_the_works_count_what_lime_takes(self):
        works = Campaign([1])
        works.raw = Juice(100000, 500)
        works.lime = 300
        works.filters = Filters(1, 1, 1)
        went, clear = works.filter_tick()
        # Evenly 995 of the 1,000 are sugar: 2 of these are gone, and 2 of the other 5 are cake.
        self.assertEqual((went, clear.sugar, clear.others), (1000, 993, 3))
        self.assertEqual((works.totals.limed_away, works.totals.cake), (2, 2))


class ThinTest(CallTest):
    def test_gathers(self):
        before = juice_calls(1000, 100) + [("filters", 1, 1000, 6), ("filter", 1), ("thin",)]
        self.check(before, told_of(1000, 100))
        self.check(thin_calls(1000, 100, 3) + [("thin",)], told_of(3000, 300))


if __name__ == "__main__":
    unittest.main()
