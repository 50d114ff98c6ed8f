import unittest

from calling import MOST, CallTest, ask, thin_calls
from beetcampaign.campaign import Campaign
from beetcampaign.silo_calls import add_sale, send_sale, set_silo

START = [("start", [30000])]
# A silo with 1,000 kilograms of 5,000 that it holds.
FILLED = thin_calls(1000, 0) + [("silo", 5000), ("strike", 1, 1, 1000), ("boil", 0)]


class SiloTest(CallTest):
    def test_how_much_it_held(self):
        self.check_all([(START[0], [0]), (("stored",), [0, 0, 0]), (("silo", 100000000), [0]),
                        (("stored",), [0, 100000000, 0]), (("silo", 0), [100000000]), (("silo", 7), [0])])

    def test_what_is_in_it(self):
        self.check(FILLED + [("stored",)], [1000, 5000, 0])
        self.check(FILLED + [("silo", 1000)], [5000])
        self.check(FILLED + [("silo", 1000), ("stored",)], [1000, 1000, 0])

    def test_refused(self):
        for cap in (100000001, MOST):
            self.check_refused(FILLED, ("silo", cap), -22)
            self.check_refused(START, ("silo", cap), -22)
        self.check_refused(FILLED, ("silo", 999), -28)
        self.check_refused(FILLED, ("silo", 0), -28)
        self.check(FILLED + [("silo", 999), ("stored",)], [1000, 5000, 0])


class SaleTest(CallTest):
    def test_numbers(self):
        self.check_all([(START[0], [0]), (("sale", 1, 0, 0), [0]), (("sale", 1000000, 100000, 1000), [1]),
                        (("sale_at", 0), [0, 1, 0, 0, 0]), (("sale_at", 1), [0, 1000000, 100000, 1000, 0]),
                        (("sales",), [2, 0, 1])])

    def test_ten_and_one_more(self):
        before = START + [("sale", 1 + place, 2, 3) for place in range(9)]
        self.check(before + [("sale", 5, 5, 5)], [9])
        before.append(("sale", 5, 5, 5))
        self.check_refused(before, ("sale", 5, 5, 5), -28)
        self.check_refused(before, ("sale", 0, 5, 5), -22)
        self.check_refused(before + [("cancel", 3)], ("sale", 5, 5, 5), -28)
        self.check_refused(FILLED + before[1:] + [("send", 0, 1)], ("sale", 5, 5, 5), -28)

    def test_refused(self):
        wrong = ((0, 5, 5), (1000001, 5, 5), (5, 100001, 5), (5, 5, 1001), (MOST, 5, 5), (5, MOST, 5), (5, 5, MOST))
        for given in wrong:
            self.check_refused(FILLED + [("sale", 5, 6, 7)], ("sale",) + given, -22)
            self.check_refused(START, ("sale",) + given, -22)


class CancelTest(CallTest):
    def test_how_much_it_still_wanted(self):
        before = FILLED + [("sale", 700, 50, 9), ("sale", 30, 60, 9), ("send", 0, 300)]
        self.check(before + [("cancel", 0)], [400])
        self.check(before + [("cancel", 1)], [30])
        self.check(before + [("cancel", 0), ("sale_at", 0)], [1, 700, 50, 9, 300])
        self.check(before + [("cancel", 0), ("sale_at", 1)], [0, 30, 60, 9, 0])
        self.check(before + [("cancel", 0), ("sales",)], [1, 1])
        self.check(before + [("cancel", 0), ("owed",)], [30])
        self.check(before + [("cancel", 0), ("stored",)], [700, 5000, 300])
        self.check(before + [("cancel", 0), ("income",)], [15, 0, 0])
        self.check(before + [("cancel", 0), ("sale", 9, 9, 9)], [2])

    def test_not_to_be_called_off(self):
        before = FILLED + [("sale", 700, 50, 9), ("sale", 30, 60, 9)]
        self.check_refused(before + [("cancel", 0)], ("cancel", 0), -6)
        self.check_refused(before + [("send", 1, 30)], ("cancel", 1), -6)
        self.check_refused(before, ("cancel", 2), -2)
        self.check_refused(before, ("cancel", MOST), -2)
        self.check_refused(START, ("cancel", 0), -2)


class TellTest(CallTest):
    def test_none(self):
        self.check(START + [("sales",)], [0])
        self.check(START + [("late",)], [0])
        self.check(START + [("owed",)], [0])
        self.check_refused(START, ("sale_at", 0), -2)

    def test_sale_at(self):
        before = START + [("sale", 9, 8, 7)]
        self.check(before + [("sale_at", 0)], [0, 9, 8, 7, 0])
        self.check_refused(before, ("sale_at", 1), -2)
        self.check_refused(before, ("sale_at", MOST), -2)

    def test_late_is_before_today(self):
        before = START + [("sale", 10, 5, due) for due in (3, 0, 1, 2)]
        self.check(before + [("late",)], [0])
        self.check(before + [("day", 50), ("late",)], [1, 1])
        self.check(before + [("days", [50, 50]), ("late",)], [2, 1, 2])
        self.check(before + [("days", [50] * 4), ("late",)], [4, 0, 1, 2, 3])
        self.check(before + [("days", [50] * 4), ("cancel", 2), ("late",)], [3, 0, 1, 3])

    def test_filled_ones_are_not_late(self):
        before = FILLED + [("sale", 10, 5, 0), ("sale", 10, 5, 0), ("send", 0, 10), ("send", 1, 9), ("day", 50)]
        self.check(before + [("late",)], [1, 1])
        self.check(before + [("sales",)], [1, 1])
        self.check(before + [("owed",)], [1])
        self.check(before + [("send", 1, 1), ("late",)], [0])

    def test_owed(self):
        before = FILLED + [("sale", 1000000, 0, 0), ("sale", 40, 0, 0), ("sale", 500, 0, 0)]
        self.check(before + [("owed",)], [1000540])
        self.check(before + [("send", 2, 100), ("cancel", 0), ("owed",)], [440])


class SendTest(CallTest):
    def test_cents(self):
        before = FILLED + [("sale", 700, 55, 9)]
        # 300 times 55, divided by 1,000, rounded down.
        self.check(before + [("send", 0, 300)], [16, 400])
        self.check(before + [("send", 0, 300), ("sale_at", 0)], [0, 700, 55, 9, 300])
        self.check(before + [("send", 0, 300), ("stored",)], [700, 5000, 300])
        self.check(before + [("send", 0, 300), ("income",)], [16, 0, 0])
        self.check(before + [("send", 0, 1)], [0, 699])
        self.check(before + [("send", 0, 700)], [38, 0])

    def test_in_parts(self):
        before = FILLED + [("sale", 700, 55, 9)]
        told = ask(before + [("send", 0, 300), ("send", 0, 399), ("send", 0, 1), ("income",), ("sales",), ("stored",)])
        self.assertEqual(told[-6:], [[16, 400], [21, 1], [0, 0], [37, 0, 0], [0], [300, 5000, 700]])

    def test_greatest(self):
        works = Campaign([1])
        set_silo(works, 100000000)
        works.silo.stored = 100000000
        add_sale(works, 1000000, 100000, 1000)
        self.assertEqual(send_sale(works, 0, 1000000), [100000000, 0])
        self.assertEqual((works.silo.stored, works.silo.sold, works.silo.income), (99000000, 1000000, 100000000))

    def test_all_that_is_in_the_silo(self):
        before = FILLED + [("sale", 2000, 1000, 9)]
        self.check(before + [("send", 0, 1000)], [1000, 1000])
        self.check(before + [("send", 0, 1000), ("stored",)], [0, 5000, 1000])
        self.check_refused(before, ("send", 0, 1001), -33)
        self.check_refused(before + [("send", 0, 1000)], ("send", 0, 1), -33)

    def test_refused(self):
        before = FILLED + [("sale", 700, 55, 9), ("sale", 2000, 5, 5)]
        for kilograms in (0, 701, MOST):
            self.check_refused(before, ("send", 0, kilograms), -22)
        self.check_refused(before, ("send", 1, 2001), -22)
        self.check_refused(before, ("send", 1, 2000), -33)
        self.check_refused(before + [("send", 0, 300)], ("send", 0, 401), -22)
        self.check_refused(before, ("send", 2, 0), -2)
        self.check_refused(before, ("send", MOST, 1), -2)
        self.check_refused(START, ("send", 0, 1), -2)

    def test_not_wanted_any_more(self):
        before = FILLED + [("sale", 700, 55, 9)]
        for kilograms in (0, 1, MOST):
            self.check_refused(before + [("cancel", 0)], ("send", 0, kilograms), -6)
            self.check_refused(before + [("send", 0, 700)], ("send", 0, kilograms), -6)


if __name__ == "__main__":
    unittest.main()
