import unittest
from itertools import product

from calling import MOST, CallTest, ask, last
from beetcampaign.growers import clean_part, payment, price_of, shares, sugar_of_load

START = [("start", [30000, 30000])]


def dug(quota, tons, held, earth, base, step):
    """One load of one grower."""
    return [("start", [30000]), ("terms", base, step), ("grower", quota), ("field", 0, tons, [held]),
            ("dig", 0, earth)]


class TermsTest(CallTest):
    def test_set(self):
        self.check_all([(START[0], [0]), (("terms", 3000, 5), [0]), (("price", 1600), [3000]),
                        (("terms", 10000, 10), [0]), (("price", 1600), [10000]),
                        (("terms", 0, 0), [0]), (("price", 2500), [0])])

    def test_none_at_first(self):
        for held in (0, 1600, 2500):
            self.check(START + [("price", held)], [0])

    def test_refused(self):
        before = START + [("terms", 3000, 5)]
        self.check_refused(before, ("terms", 10001, 0), -22)
        self.check_refused(before, ("terms", 0, 11), -22)
        self.check_refused(before, ("terms", MOST, MOST), -22)


class PriceTest(CallTest):
    def test_above_and_below(self):
        before = START + [("terms", 3000, 5)]
        for held, cents in ((1600, 3000), (1601, 3005), (1599, 2995), (2500, 7500), (1000, 0), (1001, 5), (999, 0),
                            (0, 0)):
            self.check(before + [("price", held)], [cents])

    def test_greatest(self):
        self.check(START + [("terms", 10000, 10), ("price", 2500)], [19000])
        self.check(START + [("terms", 10000, 10), ("price", 0)], [0])

    def test_refused(self):
        self.check_refused(START + [("terms", 3000, 5)], ("price", 2501), -22)
        self.check_refused(START, ("price", MOST), -22)


class GrowerTest(CallTest):
    def test_numbers(self):
        told = ask(START + [("grower", quota) for quota in (0, 1, 10000000, 4, 5, 6)])
        self.assertEqual(told[1:], [[0], [1], [2], [3], [4], [5]])

    def test_new_one(self):
        self.check(START + [("grower", 10000000), ("grower_at", 0)], [0, 0, 0, 0, 10000000])
        self.check(START + [("grower", 0), ("grower_at", 0)], [0, 0, 0, 0, 0])

    def test_refused(self):
        self.check_refused(START, ("grower", 10000001), -22)
        self.check_refused(START, ("grower", MOST), -22)
        six = START + [("grower", 1)] * 6
        self.check_refused(six, ("grower", 1), -28)
        self.check_refused(six, ("grower", 10000001), -22)

    def test_absent(self):
        for name in ("grower_at", "pay"):
            self.check_refused(START, (name, 0), -2)
            self.check_refused(START + [("grower", 1)], (name, 1), -2)
            self.check_refused(START + [("grower", 1)], (name, MOST), -2)


class PaidTest(CallTest):
    def test_within_quota(self):
        calls = dug(1000000, 300, 1500, 100, 3000, 5)
        self.check(calls, [40500, 0, 270000, 675000])
        self.check(calls + [("grower_at", 0)], [675000, 0, 270000, 40500, 730000])

    def test_partly_above_quota(self):
        # 100 within at 1532 are 153200; 567 above are 868644, halved 434322.
        calls = dug(100, 1, 1777, 333, 1001, 3)
        self.check(calls, [118, 0, 667, 587])
        self.check(calls + [("grower_at", 0)], [587, 0, 667, 118, 0])

    def test_all_above_quota(self):
        self.check(dug(0, 2, 1600, 0, 999, 0), [320, 0, 2000, 999])

    def test_just_the_quota(self):
        calls = dug(2000, 2, 1600, 0, 999, 0)
        self.check(calls, [320, 0, 2000, 1998])
        self.check(calls + [("grower_at", 0)], [1998, 0, 2000, 320, 0])

    def test_halved_behind_the_price(self):
        # 333 above at 7 are 2331, halved 1165; a halved price of 3 would bring less than one cent.
        self.assertEqual(payment(333, 0, 7), 1)
        self.assertEqual(payment(1, 0, 1999), 0)
        self.assertEqual(payment(2, 0, 1000), 1)

    def test_both_parts_are_rounded_together(self):
        self.assertEqual(payment(2, 1, 700), 1)
        self.assertEqual(payment(3, 1, 999), 1)

    def test_earlier_loads_use_up_the_quota(self):
        calls = [("start", [30000]), ("terms", 1000, 0), ("grower", 1500), ("grower", 9), ("field", 0, 1, [1600]),
                 ("field", 0, 1, [1600]), ("field", 0, 1, [1600]), ("dig", 0, 0), ("dig", 1, 0), ("dig", 2, 0)]
        self.assertEqual([told[3] for told in ask(calls)[-3:]], [1000, 750, 500])
        self.check(calls + [("grower_at", 0)], [2250, 0, 3000, 480, 0])
        self.check(calls + [("grower_at", 1)], [0, 0, 0, 0, 9])

    def test_terms_of_the_day_it_is_dug(self):
        calls = [("start", [30000]), ("grower", 9000), ("field", 0, 1, [1700]), ("field", 0, 1, [1700]),
                 ("dig", 0, 0), ("terms", 1000, 1), ("dig", 1, 0)]
        told = ask(calls)
        self.assertEqual(told[4], [170, 0, 1000, 0])
        self.assertEqual(told[6], [170, 1, 1000, 1100])
        self.check(calls + [("terms", 5000, 0), ("grower_at", 0)], [1100, 0, 2000, 340, 7000])

    def test_loads_are_rounded_down(self):
        self.assertEqual(clean_part(1999, 500), 1000)
        self.assertEqual(clean_part(1999, 0), 1999)
        self.assertEqual(clean_part(1999, 1000), 0)
        self.assertEqual(sugar_of_load(9999, 1), 0)
        self.assertEqual(sugar_of_load(10000, 1), 1)
        self.assertEqual(price_of(100, 2, 1549), 0)

    def test_greatest_load(self):
        self.check(dug(10000000, 5000, 2500, 0, 10000, 10), [1250000, 0, 5000000, 95000000])


class PayTest(CallTest):
    def test_pay(self):
        calls = dug(1000000, 300, 1500, 100, 3000, 5)
        self.check_all([(call, answer) for call, answer in zip(calls, ask(calls))] + [
            (("pay", 0), [675000]), (("grower_at", 0), [0, 675000, 270000, 40500, 730000])])

    def test_paid_adds_up(self):
        calls = [("start", [30000]), ("terms", 1000, 0), ("grower", 9000), ("field", 0, 1, [1600]),
                 ("field", 0, 2, [1600]), ("dig", 0, 0), ("pay", 0), ("dig", 1, 0), ("pay", 0), ("grower_at", 0)]
        self.assertEqual(ask(calls)[-5:], [[160, 0, 1000, 1000], [1000], [320, 1, 2000, 2000], [2000],
                                           [0, 3000, 3000, 480, 6000]])

    def test_nothing_to_be_paid(self):
        self.check_refused(START + [("grower", 1)], ("pay", 0), -6)
        paid = dug(1000000, 300, 1500, 100, 3000, 5) + [("pay", 0)]
        self.check_refused(paid, ("pay", 0), -6)

    def test_a_load_without_pay(self):
        self.check_refused(dug(1000, 1, 1600, 0, 0, 0), ("pay", 0), -6)


def three_growers(tons):
    """Growers whose sugar is as 1600 times these tons."""
    calls = [("start", [30000])] + [("grower", 0) for part in tons]
    calls += [("field", g, part, [1600]) for g, part in enumerate(tons)]
    return calls + [("dig", g, 0) for g in range(len(tons))]


class BonusTest(CallTest):
    def test_left_cents_go_to_those_whose_division_left_most(self):
        # Parts of 7: 1, 2 and 4; of 10 cents 1 and 3 left, 2 and 6 left, 5 and 5 left.
        self.check(three_growers([1, 2, 4]) + [("bonus", 10)], [3, 1, 3, 6])

    def test_of_like_ones_the_first(self):
        self.check(three_growers([5, 5, 5]) + [("bonus", 2)], [3, 1, 1, 0])
        self.check(three_growers([5, 5, 5]) + [("bonus", 4)], [3, 2, 1, 1])

    def test_growers_without_sugar_have_none(self):
        calls = three_growers([3, 3]) + [("grower", 7), ("bonus", 101)]
        self.check(calls, [3, 51, 50, 0])
        self.check(calls + [("grower_at", 2)], [0, 0, 0, 0, 7])

    def test_to_be_paid(self):
        calls = three_growers([1, 2, 4]) + [("bonus", 10), ("grower_at", 1), ("pay", 1), ("grower_at", 1)]
        self.assertEqual(ask(calls)[-3:], [[3, 0, 2000, 320, 0], [3], [0, 3, 2000, 320, 0]])
        self.check(calls + [("bonus", 1), ("bonus", 10), ("grower_at", 1)], [3, 3, 2000, 320, 0])

    def test_least_and_greatest(self):
        self.check(three_growers([1]) + [("bonus", 1)], [1, 1])
        self.check(three_growers([1]) + [("bonus", 100000000)], [1, 100000000])

    def test_all_bonuses(self):
        ten = three_growers([1, 2]) + [("bonus", 100000000)] * 9 + [("bonus", 99999999)]
        self.check_refused(ten, ("bonus", 2), -28)
        self.check(ten + [("bonus", 1)], [2, 0, 1])
        full = ten + [("bonus", 1)]
        self.check_refused(full, ("bonus", 1), -28)
        self.check_refused(full, ("bonus", 0), -22)
        self.check_refused(full + [("pay", 0), ("pay", 1)], ("bonus", 1), -28)

    def test_before_anything_came(self):
        self.check_refused(START, ("bonus", 1), -6)
        self.check_refused(START + [("grower", 1)], ("bonus", 1), -6)
        self.check_refused(START, ("bonus", 0), -22)
        self.check_refused(START, ("bonus", 100000001), -22)

    def test_loads_without_sugar(self):
        self.check_refused(dug(1, 1, 0, 0, 3000, 5), ("bonus", 1), -6)
        self.check_refused(dug(1, 1, 2500, 1000, 3000, 5), ("bonus", 1), -6)

    def test_refused(self):
        self.check_refused(three_growers([1, 2]), ("bonus", 0), -22)
        self.check_refused(three_growers([1, 2]), ("bonus", 100000001), -22)
        self.check_refused(three_growers([1, 2]), ("bonus", MOST), -22)

    def test_start_again_forgets_bonuses(self):
        full = three_growers([1]) + [("bonus", 100000000)] * 10
        self.check(full + three_growers([1]) + [("bonus", 100000000)], [1, 100000000])

    def test_all_is_shared_and_nearly_even(self):
        for parts in product((0, 1, 3, 7), repeat=3):
            for cents in (1, 2, 5, 10, 99):
                told = shares(cents, list(parts))
                if sum(parts) == 0:
                    self.assertEqual(told, [0, 0, 0])
                    continue
                self.assertEqual(sum(told), cents)
                for part, share in zip(parts, told):
                    self.assertLess(abs(share * sum(parts) - part * cents), sum(parts))


class NobodyIsPaidMoreThanEarnedTest(unittest.TestCase):
    def test_paid_and_due_are_what_was_earned(self):
        calls = [("start", [30000, 30000]), ("terms", 2999, 3), ("grower", 2000), ("grower", 500)]
        calls += [("field", f % 2, 1 + f, [1500 + 97 * f, 1700]) for f in range(6)]
        earned = [0, 0]
        for f in range(6):
            calls += [("dig", f, 37 * f)]
            earned[f % 2] += last(calls)[3]
            if f == 2:
                calls += [("bonus", 1001)]
                told = last(calls)
                earned = [earned[0] + told[1], earned[1] + told[2]]
            if f % 3 == 1:
                calls += [("pay", 0)]
            for g in range(2):
                told = last(calls + [("grower_at", g)])
                self.assertEqual(told[0] + told[1], earned[g])


if __name__ == "__main__":
    unittest.main()
