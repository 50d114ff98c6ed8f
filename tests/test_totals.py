import unittest

from calling import CallTest, ask, juice_calls, last

START = [("start", [30000])]
ALL = ("income", "today", "sums", "others", "state")


class AtFirstTest(CallTest):
    def test_nothing(self):
        told = ask([("start", [5, 6, 7])] + [(name,) for name in ALL])
        self.assertEqual(told[1:], [[0] * 3, [0, 0], [0] * 13, [0] * 6, [3] + [0] * 7])

    def test_nothing_again(self):
        calls = juice_calls(1000, 100) + [("filters", 1, 2, 3), ("lime", 9), ("filter", 2), ("silo", 900),
                                          ("strike", 1, 2, 300), ("strike", 3, 4, 5), ("boil", 3), ("second", 2, 9),
                                          ("sale", 50, 600, 7), ("send", 0, 20), ("day", 60), ("start", [5, 6, 7])]
        first = [("start", [5, 6, 7])]
        tells = [(name,) for name in ALL] + [("raw",), ("thin",), ("green",), ("molasses",), ("filters_at",), ("times",)]
        tells += [("best_cycle",), ("strikes",), ("sales",), ("stored",), ("yield",), ("in_tower",), ("fewest", 0)]
        tells += [("lime", 1), ("silo", 1), ("filters", 1, 1, 1), ("slice", 1), ("dirt", 1), ("bonus", 1)]
        self.assertEqual(ask(calls + tells)[len(calls):], ask(first + tells)[1:])


class IncomeTest(CallTest):
    def test_paid_and_to_be_paid(self):
        before = START + [("terms", 2000, 0), ("grower", 10000000), ("grower", 10000000), ("field", 0, 10, [1600]),
                          ("field", 1, 5, [1600]), ("dig", 0, 0), ("dig", 1, 0)]
        self.check(before + [("income",)], [0, 0, 30000])
        self.check(before + [("pay", 1), ("income",)], [0, 10000, 20000])
        self.check(before + [("pay", 1), ("bonus", 300), ("income",)], [0, 10000, 20300])
        self.check(before + [("pay", 1), ("bonus", 300), ("pay", 0), ("pay", 1), ("income",)], [0, 30300, 0])

    def test_what_came_in(self):
        before = juice_calls(1000, 0) + [("filters", 1, 9, 6), ("filter", 1), ("silo", 1000), ("strike", 1, 1, 1000),
                                         ("boil", 0), ("sale", 10, 1500, 9), ("sale", 99, 10000, 9)]
        self.check(before + [("income",)], [0, 0, 0])
        self.check(before + [("send", 0, 1), ("income",)], [1, 0, 0])
        self.check(before + [("send", 0, 1), ("send", 0, 9), ("send", 1, 50), ("income",)], [1 + 13 + 500, 0, 0])


class TodayTest(CallTest):
    def test_days_and_weeks(self):
        for days, week in ((0, 0), (6, 0), (7, 1), (13, 1), (14, 2)):
            self.check(START + [("days", [50] * days), ("today",)], [days, week])

    def test_behind_the_weeks(self):
        calls = START + [("days", [50] * 30)] * 13 + [("days", [50] * 10)]
        self.check(calls + [("today",)], [400, 57])
        self.check(calls + [("day", 50), ("today",)], [400, 57])


class SumsTest(CallTest):
    def test_each_place(self):
        # Two fields bring 100,000 and 1,000 kilograms; at freezing point 3 of ten thousand are lost.
        calls = START + [("grower", 1), ("field", 0, 1000, [1000]), ("field", 0, 10, [1000]), ("dig", 0, 0),
                         ("dig", 1, 0), ("day", 50)]
        self.check(calls + [("sums",)], [101000, 100970, 30, 0, 0, 0, 0, 0, 0, 0, 0, 0, 0])
        calls += [("haul", 0, 100000)]
        self.check(calls + [("sums",)], [101000, 90973, 30, 9997, 0, 0, 0, 0, 0, 0, 0, 0, 0])
        calls += [("set", 200, 100), ("cells", 1), ("slice", 9000), ("dirt", 200), ("tower", 1)]
        self.check(calls + [("sums",)], [101000, 90973, 30, 997, 9000, 0, 0, 0, 0, 0, 0, 0, 0])
        calls += [("tower", 1)]
        self.check(calls + [("sums",)], [101000, 90973, 30, 0, 997, 3000, 6000, 0, 0, 0, 0, 0, 0])
        self.check(calls + [("others",)], [1200, 1200, 0, 0, 0, 0])
        # 6,000 of 7,200 evenly: 5,000 and 1,000; lime 100 takes 5 and 200.
        calls += [("lime", 100), ("filters", 1, 9, 6), ("filter", 1)]
        self.check(calls + [("sums",)], [101000, 90973, 30, 0, 997, 3000, 1000, 5, 4995, 0, 0, 0, 0])
        self.check(calls + [("others",)], [1200, 200, 200, 800, 0, 0])
        # 2,000 of 5,795 evenly: 1,723 and 277; with 30 these keep 831.
        calls += [("silo", 1000), ("strike", 5, 5, 2000), ("boil", 30)]
        self.check(calls + [("sums",)], [101000, 90973, 30, 0, 997, 3000, 1000, 5, 3272, 831, 0, 892, 0])
        self.check(calls + [("others",)], [1200, 200, 200, 523, 277, 0])
        # 100 of 1,108 evenly: 75 and 25; with 20 these keep 50.
        calls += [("second", 20, 100)]
        self.check(calls + [("sums",)], [101000, 90973, 30, 0, 997, 3000, 1025, 5, 3272, 756, 50, 892, 0])
        self.check(calls + [("others",)], [1200, 200, 200, 523, 252, 25])
        calls += [("sale", 100, 9, 9), ("send", 0, 92)]
        told = last(calls + [("sums",)])
        self.assertEqual(told, [101000, 90973, 30, 0, 997, 3000, 1025, 5, 3272, 756, 50, 800, 92])
        self.assertEqual(told[0], sum(told[1:]))

    def test_filters_told_again_leave_the_cake(self):
        calls = juice_calls(5000, 200) + [("lime", 200), ("filters", 1, 9, 6), ("filter", 1), ("filters", 1, 9, 1)]
        self.check(calls + [("others",)], [1000, 0, 400, 600, 0, 0])

    def test_a_day_without_loss_and_days_with(self):
        calls = START + [("grower", 1), ("field", 0, 1000, [1000]), ("dig", 0, 0), ("day", 40), ("days", [50, 60, 60])]
        self.check(calls + [("sums",)], [100000, 96040, 3960] + [0] * 10)


class StateTest(CallTest):
    def test_one_after_another(self):
        steps = [(("grower", 1), 1), (("field", 0, 10, [1000]), 2), (("dig", 0, 0), 3), (("cells", 1), 4),
                 (("filters", 1, 1, 1), 5), (("strike", 1, 1, 1), 6), (("sale", 1, 1, 1), 7)]
        calls = list(START)
        expected = [1, 0, 0, 0, 0, 0, 0, 0]
        for call, place in steps:
            calls.append(call)
            expected[place] += 1
            self.check(calls + [("state",)], expected)

    def test_what_stays_and_what_goes(self):
        calls = START + [("grower", 1), ("field", 0, 1, [0]), ("dig", 0, 0), ("haul", 0, 1000), ("cells", 12),
                         ("cells", 7), ("filters", 1, 1, 6), ("filters", 1, 1, 4), ("strike", 1, 1, 1),
                         ("strike", 1, 1, 1), ("boil", 0), ("sale", 5, 5, 5), ("sale", 5, 5, 5), ("cancel", 0)]
        # An empty clamp and a sale that is called off are still there; a strike that is boiled is not.
        self.check(calls + [("state",)], [1, 1, 1, 1, 7, 4, 1, 2])


if __name__ == "__main__":
    unittest.main()
