import random
import unittest
from itertools import permutations

from calling import MOST, CallTest, ask, last, thin_calls
from beetcampaign.campaign import Campaign
from beetcampaign.juice import Juice
from beetcampaign.pan_calls import boil_again, boil_strike, plan_strike, tell_times
from beetcampaign.strikes import Strike, order_told, spun_minutes

START = [("start", [30000])]
THREE = [("strike", 10, 4, 100), ("strike", 3, 9, 200), ("strike", 5, 5, 300)]
WIDE_SILO = [("silo", 100000000)]


def told_of(sugar, others):
    return [sugar * 10000 // (sugar + others) if sugar + others else 0, sugar, others,
            max(0, sugar - others * 3 // 2)]


def last_spun(minutes, order):
    """When the last strike is spun in an order, from minute 0 on, minute by minute."""
    boiled = spun = 0
    for place in order:
        boiled += minutes[place][0]
        spun = max(boiled, spun) + minutes[place][1]
    return spun


class StrikeTest(CallTest):
    def test_how_many_are_planned(self):
        self.check_all([(START[0], [0]), (("strikes",), [0]), (("strike", 1, 500, 1), [1]),
                        (("strike", 500, 1, 1000000), [2]), (("strikes",), [2, 1, 500, 1, 500, 1, 1000000])])

    def test_eight_and_one_more(self):
        before = START + [("strike", 1 + place, 2, 3) for place in range(7)]
        self.check(before + [("strike", 8, 2, 3)], [8])
        before.append(("strike", 8, 2, 3))
        self.check_refused(before, ("strike", 1, 1, 1), -28)
        self.check_refused(before, ("strike", 0, 1, 1), -22)
        self.check(before + [("unstrike", 7), ("strike", 1, 1, 1)], [8])

    def test_refused(self):
        wrong = ((0, 5, 5), (501, 5, 5), (5, 0, 5), (5, 501, 5), (5, 5, 0), (5, 5, 1000001), (MOST, 5, 5),
                 (5, MOST, 5), (5, 5, MOST))
        for given in wrong:
            self.check_refused(START + THREE, ("strike",) + given, -22)
            self.check_refused(START, ("strike",) + given, -22)


class UnstrikeTest(CallTest):
    def test_the_others_stay_in_order(self):
        self.check(START + THREE + [("unstrike", 0)], [2])
        self.check(START + THREE + [("unstrike", 0), ("strikes",)], [2, 3, 9, 200, 5, 5, 300])
        self.check(START + THREE + [("unstrike", 1), ("strikes",)], [2, 10, 4, 100, 5, 5, 300])
        self.check(START + THREE + [("unstrike", 2), ("strikes",)], [2, 10, 4, 100, 3, 9, 200])
        self.check(START + THREE + [("unstrike", 0)] * 3, [0])
        self.check(START + THREE + [("unstrike", 0)] * 3 + [("strikes",)], [0])

    def test_refused(self):
        self.check_refused(START + THREE, ("unstrike", 3), -2)
        self.check_refused(START + THREE, ("unstrike", MOST), -2)
        self.check_refused(START, ("unstrike", 0), -2)


class EndsTest(CallTest):
    def test_without_strikes(self):
        self.check(START + [("ends",)], [0])
        self.check(START + [("soonest",)], [0, 0])
        self.check(START + [("sort",)], [0])
        self.check(START + [("times",)], [0, 0])

    def test_from_minute_0_on(self):
        # Boiled by 10, 13, 18; spun from 10, 14, 23 on.
        self.check(START + THREE + [("ends",)], [3, 14, 23, 28])

    def test_the_pan_does_not_wait_for_the_centrifuges(self):
        # The third is boiled by 3 but spun only from 20 on; the fourth by 103, when they are free again.
        strikes = [("strike", 1, 9, 1), ("strike", 1, 10, 1), ("strike", 1, 2, 1), ("strike", 100, 7, 1)]
        self.check(START + strikes + [("ends",)], [4, 10, 20, 22, 110])

    def test_by_when_they_are_free(self):
        before = START + THREE + [("boil", 0)]
        self.check(before + [("times",)], [14, 10])
        self.check(before + [("ends",)], [2, 23, 28])
        self.check(before + [("boil", 0), ("times",)], [23, 13])
        self.check(before + [("boil", 0), ("unstrike", 0), ("strike", 50, 1, 1), ("ends",)], [1, 64])

    def test_nothing_is_changed(self):
        before = START + THREE
        self.assertEqual(ask(before + [("ends",), ("soonest",), ("ends",), ("strikes",), ("times",)])[-3:],
                         [[3, 14, 23, 28], [3, 10, 4, 100, 3, 9, 200, 5, 5, 300], [0, 0]])


class SoonestTest(CallTest):
    def test_the_order_told(self):
        # No longer in the pan: 1 and 2, the shorter ahead; then 0. Boiled by 3, 8, 18; spun by 12, 17, 22.
        self.check(START + THREE + [("soonest",)], [22, 3, 1, 2, 0])

    def test_one(self):
        self.check(START + [("strike", 7, 5, 1), ("soonest",)], [12, 1, 0])

    def test_like_ones(self):
        strikes = [("strike", 5, 3, 1), ("strike", 2, 9, 2), ("strike", 4, 3, 3), ("strike", 2, 2, 4),
                   ("strike", 9, 8, 5)]
        # 1 and 3 are two minutes in the pan; 0 and 2 three in the centrifuges. Spun by 11, 13, 21, 24, 27.
        self.check(START + strikes + [("soonest",)], [27, 5, 1, 3, 4, 0, 2])

    def test_from_minute_0_on_whatever_is_free(self):
        before = START + THREE + [("boil", 0)]
        self.check(before + [("soonest",)], [17, 2, 0, 1])

    def test_no_order_is_over_sooner(self):
        source = random.Random(31)
        for trial in range(60):
            minutes = [(source.randint(1, 9), source.randint(1, 9)) for place in range(source.randint(1, 6))]
            told = last(START + [("strike", pan, spin, 1) for pan, spin in minutes] + [("soonest",)])
            best = min(last_spun(minutes, order) for order in permutations(range(len(minutes))))
            self.assertEqual(told[0], best)
            self.assertEqual(told[0], last_spun(minutes, told[2:]))
            self.assertEqual(told[2:], order_told([Strike(pan, spin, 1) for pan, spin in minutes]))
            ahead = sorted((pan, place) for place, (pan, spin) in enumerate(minutes) if pan <= spin)
            behind = sorted((-spin, place) for place, (pan, spin) in enumerate(minutes) if pan > spin)
            self.assertEqual(told[2:], [place for key, place in ahead + behind])


class SortTest(CallTest):
    def test_planned_in_the_order_told(self):
        self.check(START + THREE + [("sort",)], [3])
        self.check(START + THREE + [("sort",), ("strikes",)], [3, 3, 9, 200, 5, 5, 300, 10, 4, 100])
        self.check(START + THREE + [("sort",), ("ends",)], [3, 12, 17, 22])
        self.check(START + THREE + [("sort",), ("soonest",)], [22, 3, 0, 1, 2])
        self.check(START + THREE + [("sort",), ("boil", 0)], [0, 0, 0, 12])

    def test_sorted_they_are_over_soonest_whenever_pan_and_centrifuges_are_free(self):
        source = random.Random(32)
        for trial in range(30):
            first = (source.randint(1, 30), source.randint(1, 30))
            minutes = [(source.randint(1, 9), source.randint(1, 9)) for place in range(4)]
            calls = START + [("strike", first[0], first[1], 1), ("boil", 0)]
            calls += [("strike", pan, spin, 1) for pan, spin in minutes] + [("sort",), ("ends",)]
            told = last(calls)
            best = min(spun_minutes([Strike(minutes[place][0], minutes[place][1], 1) for place in order],
                                    first[0], sum(first))[-1] for order in permutations(range(4)))
            self.assertEqual(told[-1], best)


class BoilTest(CallTest):
    def test_crystals_and_what_runs_off(self):
        before = thin_calls(1000, 100) + WIDE_SILO + [("strike", 30, 20, 1000000), ("strike", 5, 8, 1)]
        # Of 100 other things ten keep k: 200 are kept with 20.
        self.check(before + [("boil", 20)], [800, 200, 100, 50])
        self.check(before + [("boil", 20), ("green",)], told_of(200, 100))
        self.check(before + [("boil", 20), ("thin",)], told_of(0, 0))
        self.check(before + [("boil", 20), ("stored",)], [800, 100000000, 0])
        self.check(before + [("boil", 20), ("strikes",)], [1, 5, 8, 1])
        self.check(before + [("boil", 20), ("molasses",)], told_of(0, 0))

    def test_how_much_is_kept(self):
        before = thin_calls(999, 100) + WIDE_SILO + [("strike", 30, 20, 2000)]
        # There are 99 other things: times k, divided by 10, rounded down.
        for kept, sugar in ((0, 0), (1, 9), (13, 128), (99, 980), (100, 990)):
            self.check(before + [("boil", kept)], [999 - sugar, sugar, 99, 50])

    def test_just_nothing_crystallizes(self):
        for sugar, crystals in ((989, 0), (990, 0), (991, 1)):
            works = Campaign([1])
            works.thin = Juice(sugar, 99)
            works.silo.most = 1
            plan_strike(works, 1, 1, 5000)
            self.assertEqual(boil_strike(works, 100), [crystals, sugar - crystals, 99, 2])

    def test_a_part_evenly(self):
        before = thin_calls(1000, 100) + WIDE_SILO + [("strike", 30, 20, 500), ("strike", 10, 10, 7)]
        # Of 500 are 454 sugar, the others 46; these keep 92 with 20.
        self.check(before + [("boil", 20)], [362, 92, 46, 50])
        self.check(before + [("boil", 20), ("thin",)], told_of(546, 54))
        # Of 7 are 6 sugar; the one other keeps 2.
        self.check(before + [("boil", 20), ("boil", 20)], [4, 2, 1, 60])
        self.check(before + [("boil", 20), ("boil", 20), ("green",)], told_of(94, 47))

    def test_a_strike_with_more_than_there_is(self):
        before = thin_calls(1000, 100) + WIDE_SILO
        for kilograms in (1100, 1101, 1000000):
            self.check(before + [("strike", 1, 1, kilograms), ("boil", 0)], [1000, 0, 100, 2])
        self.check(before + [("strike", 1, 1, 1099), ("boil", 0)], [999, 0, 100, 2])

    def test_without_thin_juice(self):
        before = START + THREE + [("boil", 50)]
        self.check(before, [0, 0, 0, 14])
        self.check(before + [("strikes",)], [2, 3, 9, 200, 5, 5, 300])
        self.check(before + [("green",)], [0, 0, 0, 0])

    def test_minutes(self):
        told = ask(START + THREE + [("ends",)] + [("boil", 0), ("times",)] * 3)
        self.assertEqual([answer[3] for answer in told[-6::2]], told[4][1:])
        self.assertEqual(told[-5::2], [[14, 10], [23, 13], [28, 18]])

    def test_refused(self):
        before = thin_calls(1000, 100) + WIDE_SILO + [("strike", 30, 20, 500)]
        for kept in (101, MOST):
            self.check_refused(before, ("boil", kept), -22)
            self.check_refused(START, ("boil", kept), -22)
        self.check_refused(START, ("boil", 100), -6)
        self.check_refused(before + [("unstrike", 0)], ("boil", 0), -6)

    def test_a_silo_that_is_just_full(self):
        before = thin_calls(1000, 100) + [("strike", 30, 20, 2000)]
        self.check(before + [("silo", 800), ("boil", 20)], [800, 200, 100, 50])
        self.check_refused(before + [("silo", 799)], ("boil", 20), -28)
        self.check_refused(before, ("boil", 20), -28)
        self.check(before + [("boil", 100)], [0, 1000, 100, 50])
        self.check_refused(before + [("silo", 799)], ("boil", 101), -22)
        self.check_refused(before[:-1] + [("silo", 799)], ("boil", 20), -6)

    def test_what_is_in_the_silo_counts(self):
        before = thin_calls(1000, 0) + [("strike", 1, 1, 600), ("strike", 1, 1, 400), ("silo", 999), ("boil", 0)]
        self.check_refused(before, ("boil", 0), -28)
        self.check(before + [("silo", 1000), ("boil", 0)], [400, 0, 0, 3])

    def test_the_last_minute(self):
        for free, told in ((99999999, [0, 0, 0, 100000001]), (100000000, [-16]), (100000001, [-16])):
            works = Campaign([1])
            works.pans.pan_free = 99999998
            works.pans.spin_free = free
            plan_strike(works, 1, 2, 5)
            self.assertEqual(boil_strike(works, 0), told)
            self.assertEqual(len(works.strikes), 1 if told == [-16] else 0)

    def test_the_pan_may_be_free_later_than_the_last_minute(self):
        works = Campaign([1])
        works.pans.pan_free = 100000000
        works.pans.spin_free = 99999999
        plan_strike(works, 1, 2, 5)
        self.assertEqual(boil_strike(works, 0), [0, 0, 0, 100000003])
        self.assertEqual(tell_times(works), [100000003, 100000001])

    def test_the_last_minute_among_other_refusals(self):
        works = Campaign([1])
        works.pans.spin_free = 100000000
        works.thin = Juice(5, 0)
        self.assertEqual(boil_strike(works, 0), [-6])
        plan_strike(works, 1, 2, 5)
        self.assertEqual(boil_strike(works, 101), [-22])
        self.assertEqual(boil_strike(works, 0), [-16])
        works.pans.spin_free = 0
        self.assertEqual(boil_strike(works, 0), [-28])
        self.assertEqual((works.thin.sugar, len(works.strikes), tell_times(works)), (5, 1, [0, 0]))


class SecondTest(CallTest):
    # Of 1,000 and 100 all sugar runs off where ten keep 100.
    GREEN = thin_calls(1000, 100) + [("strike", 1, 1, 2000), ("boil", 100)]

    def test_crystals_go_back_into_the_raw_juice(self):
        self.check(self.GREEN + [("green",)], told_of(1000, 100))
        before = self.GREEN + [("second", 30, 2000)]
        self.check(before, [700, 300, 100])
        self.check(before + [("green",)], told_of(0, 0))
        self.check(before + [("raw",)], told_of(700, 0))
        self.check(before + [("molasses",)], told_of(300, 100))
        self.check(before + [("stored",)], [0, 0, 0])
        self.check(before + [("times",)], [2, 1])

    def test_a_part_evenly(self):
        before = self.GREEN + [("second", 30, 500)]
        self.check(before, [454 - 138, 138, 46])
        self.check(before + [("green",)], told_of(546, 54))
        self.check(before + [("second", 30, 600)], [546 - 162, 162, 54])
        self.check(before + [("second", 30, 600), ("molasses",)], told_of(300, 100))
        self.check(self.GREEN + [("second", 0, 1)], [0, 0, 1])

    def test_as_much_as_there_is_and_more(self):
        for kilograms in (1100, 1101, MOST):
            self.check(self.GREEN + [("second", 0, kilograms)], [1000, 0, 100])
        self.check(self.GREEN + [("second", 0, 1099)], [999, 0, 100])

    def test_of_nothing_that_crystallizes(self):
        before = self.GREEN + [("second", 100, 5000)]
        self.check(before, [0, 1000, 100])
        self.check(before + [("molasses",)], told_of(1000, 100))
        self.check(before + [("raw",)], [0, 0, 0, 0])

    def test_other_things_alone_are_green_too(self):
        works = Campaign([1])
        works.green = Juice(0, 5)
        self.assertEqual(boil_again(works, 0, 3), [0, 0, 3])
        self.assertEqual(boil_again(works, 100, 3), [0, 0, 2])
        self.assertEqual(boil_again(works, 100, 3), [-6])
        self.assertEqual(works.molasses.others, 5)

    def test_how_much_is_kept(self):
        for kept, sugar in ((0, 0), (1, 10), (99, 990), (100, 1000)):
            self.check(self.GREEN + [("second", kept, 1100)], [1000 - sugar, sugar, 100])

    def test_refused(self):
        for given in ((101, 5), (MOST, 5), (0, 0), (100, 0), (101, 0)):
            self.check_refused(self.GREEN, ("second",) + given, -22)
            self.check_refused(START, ("second",) + given, -22)
        self.check_refused(START, ("second", 100, 1), -6)
        self.check_refused(self.GREEN + [("second", 5, 1100)], ("second", 0, 1), -6)

    def test_what_went_back_is_filtered_again(self):
        before = self.GREEN + [("second", 30, 2000), ("filter", 1)]
        self.check(before, [700, 700, 0])


if __name__ == "__main__":
    unittest.main()
