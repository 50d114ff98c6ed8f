"""What holds however a campaign goes."""

import random
import unittest
from itertools import product

from calling import ask, last

WEEKS = 3


def random_campaign(source):
    """Calls of all kinds, right and wrong ones, on a few growers, fields and cells."""
    calls = [("start", [source.choice((5, 9, 14)) for week in range(WEEKS)]), ("terms", 3000, 5), ("grower", 3000),
             ("grower", 9000), ("cells", source.randint(1, 4)), ("slice", source.choice((10, 90, 400)))]
    calls += [("field", f % 2, source.randint(1, 6), [source.randint(1400, 1900) for week in range(WEEKS)])
              for f in range(6)]
    for step in range(90):
        calls.append(source.choice((
            ("dig", source.randint(0, 6), source.choice((0, 0, 80, 1000, 1001))),
            ("day", source.choice((30, 44, 50, 55, 70, 101))),
            ("days", [source.choice((40, 46, 52))] * source.randint(0, 2)),
            ("haul", source.randint(0, 6), source.choice((0, 1, 777, 1000, 2000))),
            ("tower", source.randint(0, 9)),
            ("plan", source.randint(0, 6), source.randint(0, WEEKS)),
            ("cover", source.randint(0, 6)), ("uncover", source.randint(0, 6)),
            ("set", source.randint(45, 205), source.randint(0, 105)), ("cells", source.randint(0, 5)),
            ("adopt",), ("pay", source.randint(0, 2)), ("bonus", source.randint(0, 500)))))
    return calls


class WhereTheSugarIsTest(unittest.TestCase):
    def test_no_sugar_is_lost_but_what_is_told(self):
        source = random.Random(11)
        through = 0
        for trial in range(40):
            calls = random_campaign(source)
            tells = [("heap", k) for k in range(6)] + [("in_tower",)]
            told = ask(calls + tells)
            came = lost = hauled = out = 0
            for call, answer in zip(calls, told):
                if answer[0] < 0:
                    continue
                if call[0] == "dig":
                    came += answer[0]
                if call[0] in ("day", "days"):
                    lost += answer[0]
                if call[0] == "haul":
                    hauled += answer[0]
                if call[0] == "tower":
                    out += answer[0] + answer[1]
            clamps = sum(answer[0] for answer in told[-7:-1] if answer[0] > 0)
            inside, count, hopper = told[-1]
            self.assertEqual(came, clamps + lost + hauled)
            self.assertEqual(hauled, hopper + inside + out)
            self.assertEqual(came, clamps + lost + hopper + inside + out)
            through += out
        self.assertGreater(through, 0)


class WeeksTest(unittest.TestCase):
    def test_no_week_is_dug_beyond_what_can_be(self):
        source = random.Random(12)
        for trial in range(40):
            calls = random_campaign(source)
            told = ask(calls + [("room", week) for week in range(WEEKS)] + [("field_at", f) for f in range(6)])
            dug = [0] * WEEKS
            for answer in told[-6:]:
                if answer[0] > 0:
                    dug[answer[0] - 1] += answer[2]
            for week in range(WEEKS):
                self.assertEqual(told[len(calls) + week][1], dug[week])
                self.assertLessEqual(dug[week], calls[0][1][week])


class PlansTest(unittest.TestCase):
    def test_no_plan_has_more_than_the_one_that_is_adopted(self):
        fields = [(3, [1500, 1600, 1550]), (4, [1700, 1650, 1600]), (2, [1400, 1500, 1650])]
        start = [("start", [5, 4, 6]), ("grower", 1)] + [("field", 0, tons, holds) for tons, holds in fields]
        best = last(start + [("adopt",)])[0]
        self.assertEqual(last(start + [("adopt",), ("planned",)]), [best, 1, 3])
        most = 0
        for weeks in product(range(WEEKS), repeat=3):
            sugar, right, count = last(start + [("plan", f, week) for f, week in enumerate(weeks)] + [("planned",)])
            self.assertEqual(count, 3)
            if right:
                self.assertLessEqual(sugar, best)
                most = max(most, sugar)
        self.assertEqual(most, best)

    def test_dug_by_the_best_plan_just_so_much_comes_and_never_more(self):
        source = random.Random(13)
        for trial in range(30):
            start = random_campaign(source)[:12]
            best = last(start + [("best",)])
            if best[0] < 0:
                continue
            calls = list(start)
            for week in range(WEEKS):
                calls += [("dig", f, 0) for f in range(6) if best[2 + f] == week] + [("days", [50] * 7)]
            came = sum(answer[0] for call, answer in zip(calls, ask(calls)) if call[0] == "dig")
            self.assertEqual(came, best[0])
            calls = list(start)
            for week in range(WEEKS):
                calls += [("dig", f, 0) for f in source.sample(range(6), 6)] + [("days", [50] * 7)]
            dug = [answer for call, answer in zip(calls, ask(calls)) if call[0] == "dig" and answer[0] >= 0]
            if len(dug) == 6:
                self.assertLessEqual(sum(answer[0] for answer in dug), best[0])


class CentsTest(unittest.TestCase):
    def test_bonuses_are_all_shared_and_nobody_is_paid_more_than_earned(self):
        source = random.Random(14)
        for trial in range(40):
            calls = random_campaign(source)
            told = ask(calls + [("grower_at", 0), ("grower_at", 1)])
            earned = [0, 0]
            paid = [0, 0]
            for call, answer in zip(calls, told):
                if answer[0] < 0:
                    continue
                if call[0] == "dig":
                    earned[call[1] % 2] += answer[3]
                if call[0] == "bonus":
                    self.assertEqual(answer[0], 2)
                    self.assertEqual(sum(answer[1:]), call[1])
                    earned = [earned[g] + answer[1 + g] for g in range(2)]
                if call[0] == "pay":
                    paid[call[1]] += answer[0]
                self.assertLessEqual(paid[0], earned[0])
                self.assertLessEqual(paid[1], earned[1])
            for g in range(2):
                self.assertEqual(told[len(calls) + g][:2], [earned[g] - paid[g], paid[g]])


if __name__ == "__main__":
    unittest.main()
