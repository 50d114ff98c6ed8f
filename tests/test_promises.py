"""What holds however a campaign goes, over campaigns of calls of every kind."""

import random
import unittest
from itertools import permutations, product

from calling import NAMES, ask, last

WEEKS = 3
FIELDS = 6
SETUP = 17


def setup(source):
    """Growers, fields, a tower, filters and a silo."""
    calls = [("start", [source.choice((50, 90, 140)) for week in range(WEEKS)]), ("terms", 3000, 5), ("grower", 30000),
             ("grower", 90000), ("cells", source.randint(1, 4)), ("slice", source.choice((100, 900, 4000))),
             ("dirt", source.choice((0, 100, 200))), ("set", 110, source.choice((50, 90))),
             ("filters", source.randint(1, 3), source.randint(1, 4), source.randint(1, 3)),
             ("silo", source.choice((1000, 4000, 50000))), ("lime", source.choice((0, 120, 250)))]
    calls += [("field", f % 2, source.randint(10, 60), [source.randint(1400, 1900) for week in range(WEEKS)])
              for f in range(FIELDS)]
    return calls


def field_step(source):
    return source.choice((
        ("dig", source.randint(0, 6), source.choice((0, 0, 80, 1000, 1001))),
        ("dig", source.randint(0, 6), 0),
        ("day", source.choice((30, 44, 50, 55, 70, 101))),
        ("days", [source.choice((40, 46, 52))] * source.randint(0, 2)),
        ("plan", source.randint(0, 6), source.randint(0, WEEKS)), ("adopt",), ("best",), ("planned",),
        ("room", source.randint(0, WEEKS)), ("field_at", source.randint(0, 6)), ("held", source.randint(0, 6)),
        ("ripest", source.randint(0, 6)), ("grower_at", source.randint(0, 2)), ("price", source.randint(0, 2501)),
        ("pay", source.randint(0, 2)), ("pay", source.randint(0, 2)), ("bonus", source.randint(0, 500)),
        ("cover", source.randint(0, 6)), ("uncover", source.randint(0, 6)), ("heap", source.randint(0, 6)),
        ("heaps",), ("frost",), ("lose", source.randint(0, 6), source.randint(0, 101)),
        ("when_cover", source.randint(0, 6), [50, 40, 60]), ("order", [60, 55]),
        ("terms", source.randint(0, 10001), source.randint(0, 11)), ("grower", 10000001),
        ("field", source.randint(0, 2), 0, [1, 2, 3]), ("start", [])))


def tower_step(source):
    return source.choice((
        ("haul", source.randint(0, 6), source.choice((0, 1, 7777, 10000, 20000))),
        ("haul", source.randint(0, 3), source.choice((7777, 10000, 20000))),
        ("haul", source.randint(0, 3), source.choice((7777, 10000, 20000))),
        ("tower", source.randint(0, 9)), ("tower", source.randint(1, 40)), ("tower", source.randint(1, 40)),
        ("set", source.randint(45, 205), source.randint(0, 105)), ("cells", source.randint(0, 5)),
        ("slice", source.choice((0, 500, 5000, 10001))), ("dirt", source.choice((0, 150, 300, 301))),
        ("cell", source.randint(0, 4)), ("in_tower",), ("steady",), ("fewest", source.choice((0, 5000, 10001))),
        ("yield",)))


def juice_step(source):
    return source.choice((
        ("lime", source.choice((0, 30, 200, 300, 301))), ("would_lime", source.randint(0, 301)), ("best_lime",),
        ("filters", source.randint(0, 3), source.randint(0, 4), source.randint(0, 4)),
        ("filter", source.randint(0, 9)), ("filter", source.randint(1, 30)), ("filter", source.randint(1, 30)),
        ("strike", source.randint(0, 30), source.randint(0, 30), source.choice((0, 40, 3000, 30000))),
        ("strike", source.randint(1, 30), source.randint(1, 30), source.choice((40, 3000, 30000))),
        ("strike", source.randint(1, 30), source.randint(1, 30), source.choice((40, 3000, 30000))),
        ("unstrike", source.randint(0, 9)), ("strikes",), ("ends",), ("soonest",), ("sort",),
        ("boil", source.choice((0, 10, 20, 101))), ("boil", source.choice((5, 20, 30))),
        ("boil", source.choice((5, 20, 30))), ("second", source.choice((0, 10, 25, 101)), source.choice((0, 20, 900))),
        ("second", source.choice((5, 15)), source.choice((20, 900))), ("times",), ("raw",), ("thin",), ("green",),
        ("molasses",), ("filters_at",), ("best_cycle",)))


def silo_step(source):
    return source.choice((
        ("silo", source.choice((0, 500, 5000, 90000, 100000001))), ("silo", source.choice((5000, 90000))), ("stored",),
        ("sale", source.choice((0, 10, 70, 300)), source.randint(0, 900), source.randint(0, 30)),
        ("sale", source.choice((10, 70, 300)), source.randint(0, 900), source.randint(0, 30)),
        ("cancel", source.randint(0, 19)), ("sales",), ("sale_at", source.randint(0, 9)),
        ("send", source.randint(0, 5), source.choice((0, 1, 10, 60))),
        ("send", source.randint(0, 9), source.choice((1, 10, 60))), ("late",), ("owed",), ("income",), ("today",),
        ("sums",), ("others",), ("state",)))


def push(source):
    """Calls that bring beets from a field as far as the silo, if all goes well."""
    f = source.randint(0, 5)
    return [("dig", f, source.choice((0, 60))), ("cover", 0), ("haul", 0, source.choice((9000, 18000))),
            ("haul", source.randint(0, 2), source.choice((9000, 18000))), ("tower", source.randint(5, 60)),
            ("filter", source.randint(5, 60)), ("strike", source.randint(1, 30), source.randint(1, 30), 30000),
            ("boil", source.choice((5, 15, 30))), ("second", source.choice((0, 10)), source.choice((20, 900))),
            ("sale", source.choice((10, 70, 300)), source.randint(0, 900), source.randint(0, 30)),
            ("send", source.randint(0, 3), source.choice((1, 10)))]


def random_campaign(source, steps=100):
    """So many calls of all kinds, right and wrong ones, behind the setup."""
    calls = []
    chances = (field_step, tower_step, juice_step, juice_step, silo_step)
    while len(calls) < steps:
        if source.randint(0, 9) == 0:
            calls += push(source)
        else:
            calls.append(source.choice(chances)(source))
    return setup(source) + calls[:steps]


class EveryKindTest(unittest.TestCase):
    def test_calls_of_every_kind_are_made_and_not_all_refused(self):
        source = random.Random(10)
        answered = {}
        refused = {}
        for trial in range(120):
            calls = random_campaign(source)
            for call, told in zip(calls, ask(calls)):
                (refused if told[0] < 0 else answered)[call[0]] = True
        self.assertEqual([name for name in NAMES if name not in answered], [])
        self.assertIn("send", refused)
        self.assertIn("boil", refused)


class Ledger:
    """Where the sugar and the other things are, by what the calls' own answers tell."""

    def __init__(self):
        self.came = self.lost = self.hauled = self.fed = self.drawn = self.pulp = 0
        self.filtered = self.thin = self.thin_others = 0
        self.crystals = self.green = self.green_others = 0
        self.again = self.molasses = self.molasses_others = self.sold = 0

    def note(self, call, told):
        name = call[0]
        if told[0] < 0:
            return
        if name == "dig":
            self.came += told[0]
        if name in ("day", "days"):
            self.lost += told[0]
        if name == "haul":
            self.hauled += told[0]
        if name == "tower":
            self.drawn += told[0]
            self.pulp += told[1]
        if name == "filter":
            self.filtered += told[0]
            self.thin += told[1]
            self.thin_others += told[2]
        if name == "boil":
            self.crystals += told[0]
            self.green += told[1]
            self.green_others += told[2]
        if name == "second":
            self.again += told[0]
            self.molasses += told[1]
            self.molasses_others += told[2]
        if name == "send":
            self.sold += call[2]

    def check(self, test, sums, others, inside, hopper):
        """What sums and others tell, place by place."""
        green = self.green - self.again - self.molasses
        thin = self.thin - self.crystals - self.green
        test.assertEqual(sums[0], self.came)
        test.assertEqual(sums[1:6], [self.came - self.lost - self.hauled, self.lost, hopper, inside, self.pulp])
        test.assertEqual(sums[6] + sums[7], self.drawn + self.again - self.thin)
        test.assertEqual(sums[8:], [thin, green, self.molasses, self.crystals - self.sold, self.sold])
        test.assertEqual(others[3:], [self.thin_others - self.green_others,
                                      self.green_others - self.molasses_others, self.molasses_others])
        came_in = self.drawn + self.again + others[0]
        test.assertEqual(sums[6] + others[1], came_in - self.filtered)
        test.assertEqual(sums[7] + others[2], self.filtered - self.thin - self.thin_others)


class WhereItIsTest(unittest.TestCase):
    def test_nothing_is_lost_but_what_is_told(self):
        source = random.Random(11)
        places = [0] * 13
        other_places = [0] * 6
        for trial in range(60):
            calls = random_campaign(source)
            told = ask(calls + [("sums",), ("others",), ("in_tower",)])
            ledger = Ledger()
            for call, answer in zip(calls, told):
                ledger.note(call, answer)
            sums, others, tower = told[-3:]
            self.assertEqual((len(sums), len(others)), (13, 6))
            self.assertEqual(sums[0], sum(sums[1:]))
            self.assertEqual(others[0], sum(others[1:]))
            self.assertGreaterEqual(min(sums + others), 0)
            ledger.check(self, sums, others, tower[0], tower[2])
            places = [one + more for one, more in zip(places, sums)]
            other_places = [one + more for one, more in zip(other_places, others)]
        # Each place had some in one campaign or another.
        self.assertGreater(min(places), 0, places)
        self.assertGreater(min(other_places), 0, other_places)

    def test_at_each_moment(self):
        source = random.Random(12)
        for trial in range(8):
            calls = random_campaign(source, 120)
            for length in range(SETUP, len(calls), 3):
                told = ask(calls[:length] + [("sums",), ("others",), ("raw",), ("thin",), ("green",), ("molasses",),
                                             ("stored",), ("in_tower",)] + [("heap", k) for k in range(FIELDS)])
                sums, others, raw, thin, green, molasses, stored, tower = told[length:length + 8]
                heaps = sum(answer[0] for answer in told[length + 8:] if answer[0] >= 0)
                self.assertEqual(sums[0], sum(sums[1:]))
                self.assertEqual(others[0], sum(others[1:]))
                self.assertEqual([sums[1], sums[3], sums[4]], [heaps, tower[2], tower[0]])
                self.assertEqual([sums[6]] + sums[8:], [raw[1], thin[1], green[1], molasses[1], stored[0], stored[2]])
                self.assertEqual([others[1]] + others[3:], [raw[2], thin[2], green[2], molasses[2]])

    def test_hauled_in_whatever_parts_no_sugar_is_left_behind(self):
        source = random.Random(13)
        emptied = 0
        for trial in range(40):
            calls = random_campaign(source, 80)
            told = ask(calls + [("heap", k) for k in range(FIELDS)] + [("in_tower",)])
            hauls = []
            sugar = 0
            for k, heap in enumerate(told[len(calls):-1]):
                if heap[0] >= 0 and heap[1] > 0:
                    cuts = sorted(source.sample(range(1, heap[1]), min(5, heap[1] - 1))) + [heap[1]]
                    hauls += [("haul", k, cut - before) for before, cut in zip([0] + cuts, cuts)]
                    sugar += heap[0]
            after = ask(calls + hauls + [("heaps",), ("sums",)])
            hauled = [answer[0] for answer in after[len(calls):-2]]
            self.assertEqual(sum(hauled), sugar)
            self.assertEqual(after[-2], [0])
            self.assertEqual(after[-1][1], 0)
            self.assertEqual(after[-1][3], told[-1][2] + sugar)
            emptied += len(hauls)
        self.assertGreater(emptied, 0)


class WeeksTest(unittest.TestCase):
    def test_no_week_is_dug_beyond_what_can_be(self):
        source = random.Random(14)
        for trial in range(60):
            calls = random_campaign(source)
            told = ask(calls + [("room", week) for week in range(WEEKS)] + [("field_at", f) for f in range(FIELDS)])
            dug = [0] * WEEKS
            for answer in told[-FIELDS:]:
                if answer[0] > 0:
                    dug[answer[0] - 1] += answer[2]
            for week in range(WEEKS):
                self.assertEqual(told[len(calls) + week][1], dug[week])
                self.assertLessEqual(dug[week], calls[0][1][week])

    def test_days_one_by_one_are_days_at_once(self):
        source = random.Random(15)
        for trial in range(40):
            calls = random_campaign(source, 80)
            days = [source.randint(30, 80) for day in range(source.randint(0, 30))]
            tells = [("sums",), ("today",), ("heaps",), ("frost",), ("late",), ("state",)]
            tells += [("heap", k) for k in range(FIELDS)] + [("room", w) for w in range(WEEKS)]
            single = ask(calls + [("day", warmth) for warmth in days] + tells)
            together = ask(calls + [("days", days)] + tells)
            self.assertEqual(single[-len(tells):], together[-len(tells):])
            lost = sum(answer[0] for answer in single[len(calls):-len(tells)])
            self.assertEqual(together[len(calls)], [lost, together[-len(tells) + 1][0]])


def plans_of(fields, rooms):
    """All right plans of fields (tons, sugar week by week) within the rooms, each with its sugar."""
    for weeks in product(range(len(rooms)), repeat=len(fields)):
        dug = [sum(field[0] for field, at in zip(fields, weeks) if at == week) for week in range(len(rooms))]
        if all(tons <= room for tons, room in zip(dug, rooms)):
            yield sum(field[1][at] for field, at in zip(fields, weeks)), list(weeks)


class PlansTest(unittest.TestCase):
    def test_no_plan_has_more_than_the_one_that_is_adopted(self):
        source = random.Random(16)
        adopted = 0
        for trial in range(40):
            calls = random_campaign(source, 60)
            told = ask(calls + [("adopt",), ("planned",)] + [("room", week) for week in range(WEEKS)] +
                       [("field_at", f) for f in range(FIELDS)])
            best, planned = told[len(calls):len(calls) + 2]
            rooms = [answer[0] for answer in told[len(calls) + 2:-FIELDS]]
            fields = [(call[2], [call[2] * held // 10 for held in call[3]]) for call in calls[SETUP - FIELDS:SETUP]]
            left = [f for f in range(FIELDS) if told[f - FIELDS][0] == 0]
            plans = list(plans_of([fields[f] for f in left], rooms))
            if not plans:
                self.assertEqual(best, [-33])
                continue
            most = max(plan[0] for plan in plans)
            self.assertEqual(best, [most])
            self.assertEqual(planned, [most, 1, len(left)])
            weeks = [told[f - FIELDS][3] - 1 for f in left]
            self.assertEqual(weeks, min(plan[1] for plan in plans if plan[0] == most))
            adopted += len(left)
        self.assertGreater(adopted, 0)

    def test_no_plan_by_hand_has_more(self):
        fields = [(3, [1500, 1600, 1550]), (4, [1700, 1650, 1600]), (2, [1400, 1500, 1650])]
        start = [("start", [5, 4, 6]), ("grower", 1)] + [("field", 0, tons, holds) for tons, holds in fields]
        best = last(start + [("adopt",)])[0]
        self.assertEqual(last(start + [("adopt",), ("planned",)]), [best, 1, 3])
        most = 0
        for weeks in product(range(WEEKS), repeat=3):
            sugar, right, count = last(start + [("plan", f, week) for f, week in enumerate(weeks)] + [("planned",)])
            self.assertEqual(count, 3)
            if right:
                self.assertLessEqual(sugar, best)
                most = max(most, sugar)
        self.assertEqual(most, best)

    def test_once_all_is_dug_no_more_came_than_by_the_best_plan_and_by_some_just_so_much(self):
        source = random.Random(17)
        whole = 0
        for trial in range(60):
            start = setup(source)
            best = last(start + [("best",)])
            if best[0] < 0:
                continue
            between = [[source.choice((tower_step, juice_step, silo_step))(source) for step in range(10)]
                       for week in range(WEEKS)]
            calls = list(start)
            for week in range(WEEKS):
                calls += [("dig", f, 0) for f in range(FIELDS) if best[2 + f] == week] + between[week]
                calls += [("days", [50] * 7)]
            self.assertEqual(last(calls + [("sums",)])[0], best[0])
            calls = list(start)
            for week in range(WEEKS):
                calls += [("dig", f, source.choice((0, 0, 9))) for f in source.sample(range(FIELDS), 4)]
                calls += between[week] + [("days", [50] * 7)]
            told = ask(calls + [("sums",)] + [("field_at", f) for f in range(FIELDS)])
            if all(answer[0] > 0 for answer in told[-FIELDS:]):
                whole += 1
                self.assertLessEqual(told[len(calls)][0], best[0])
        self.assertGreater(whole, 0)


class TowerTest(unittest.TestCase):
    def test_the_tower_draws_as_cells_by_themselves_do(self):
        source = random.Random(18)
        drawn = 0
        for trial in range(40):
            calls = random_campaign(source, 80) + [("cells", 3), ("set", 130, 70), ("slice", 77)]
            told = ask(calls + [("in_tower",)] + [("cell", i) for i in range(5)] + [("tower", 7), ("yield",)])
            cells = [answer for answer in told[-7:-2] if answer[0] >= 0]
            hopper = told[len(calls)][2]
            out = [0, 0]
            for tick in range(7):
                out = [out[0] + cells[0][1], out[1] + cells[-1][0]]
                fed = min(77, hopper)
                hopper -= fed
                beets = [fed] + [cell[0] for cell in cells[:-1]]
                juice = [cell[1] for cell in cells[1:]] + [0]
                cells = []
                for wet, sweet in zip(beets, juice):
                    alike = (wet + sweet) * 100 // 230
                    part = abs(wet - alike) * 70 // 100
                    cells.append([wet - part, sweet + part] if wet > alike else [wet + part, sweet - part])
            self.assertEqual(told[-2], out + [hopper])
            drawn += out[0]
        self.assertGreater(drawn, 0)


class StrikesTest(unittest.TestCase):
    def test_sorted_they_are_over_soonest(self):
        source = random.Random(19)
        most = 0
        for trial in range(60):
            calls = random_campaign(source)
            told = ask(calls + [("times",), ("strikes",), ("soonest",), ("sort",), ("ends",)])
            times, strikes, soonest, count, ends = told[-5:]
            minutes = list(zip(strikes[1::3], strikes[2::3]))[:6]
            if strikes[0] == 0 or strikes[0] > 6:
                continue
            overs = {}
            for start in ((times[1], times[0]), (0, 0)):
                overs[start] = []
                for order in permutations(minutes):
                    pan, spin = start
                    for boiled, spun in order:
                        pan += boiled
                        spin = max(pan, spin) + spun
                    overs[start].append(spin)
            self.assertEqual(count, [strikes[0]])
            self.assertEqual(ends[-1], min(overs[(times[1], times[0])]))
            self.assertEqual(soonest[0], min(overs[(0, 0)]))
            most = max(most, strikes[0])
        self.assertGreater(most, 2)


class CentsTest(unittest.TestCase):
    def test_bonuses_are_all_shared_and_nobody_is_paid_more_than_earned(self):
        source = random.Random(20)
        paid_in_all = 0
        for trial in range(60):
            calls = random_campaign(source)
            told = ask(calls + [("grower_at", 0), ("grower_at", 1), ("income",)])
            earned = [0, 0]
            paid = [0, 0]
            came = 0
            for call, answer in zip(calls, told):
                if answer[0] < 0:
                    continue
                if call[0] == "dig":
                    earned[call[1] % 2] += answer[3]
                if call[0] == "bonus":
                    self.assertEqual(answer[0], 2)
                    self.assertEqual(sum(answer[1:]), call[1])
                    earned = [earned[g] + answer[1 + g] for g in range(2)]
                if call[0] == "pay":
                    paid[call[1]] += answer[0]
                if call[0] == "send":
                    came += answer[0]
                self.assertLessEqual(paid[0], earned[0])
                self.assertLessEqual(paid[1], earned[1])
            for g in range(2):
                self.assertEqual(told[len(calls) + g][:2], [earned[g] - paid[g], paid[g]])
            self.assertEqual(told[-1], [came, sum(paid), sum(earned) - sum(paid)])
            paid_in_all += sum(paid)
        self.assertGreater(paid_in_all, 0)


class SiloTest(unittest.TestCase):
    def test_never_fuller_than_it_may_be_and_at_most_one_filter_washed(self):
        source = random.Random(21)
        full = 0
        washed = 0
        for trial in range(60):
            steps = random_campaign(source, 43)
            calls = steps[:SETUP]
            for step in steps[SETUP:]:
                calls += [step, ("stored",), ("filters_at",)]
            told = ask(calls)
            for place in range(SETUP, len(calls), 3):
                stored, filters = told[place + 1:place + 3]
                self.assertLessEqual(stored[0], stored[1])
                full += calls[place][0] == "boil" and told[place] == [-28]
                washing = sum(1 for left in filters[3::2] if left > 0)
                self.assertLessEqual(washing, 1)
                washed += washing
        self.assertGreater(full, 0)
        self.assertGreater(washed, 0)

    def test_all_sales_can_be_filled_just_if_the_silo_has_as_much(self):
        source = random.Random(22)
        seen = {}
        for trial in range(150):
            calls = random_campaign(source) + [("sale", source.choice((1, 5, 40, 300)), 5, 5)]
            told = ask(calls + [("stored",), ("owed",), ("sales",)] + [("sale_at", o) for o in range(10)])
            stored, owed, sales = told[len(calls):len(calls) + 3]
            wants = {o: answer[1] - answer[4] for o, answer in enumerate(told[-10:]) if answer[0] == 0}
            still = [o for o in wants if wants[o] > 0]
            self.assertEqual(sales, [len(still)] + still)
            self.assertEqual(owed, [sum(wants[o] for o in still)])
            source.shuffle(still)
            sent = ask(calls + [("send", o, wants[o]) for o in still] + [("sales",)])[len(calls):]
            filled = all(answer[0] >= 0 for answer in sent[:-1])
            self.assertEqual(filled, stored[0] >= owed[0])
            self.assertEqual(sent[-1] == [0], filled)
            seen[filled and len(still) > 0] = True
        self.assertEqual(len(seen), 2)

    def test_as_much_as_is_owed_and_one_less(self):
        for cut in (0, 1):
            calls = [("start", [9]), ("grower", 1), ("field", 0, 9, [1000]), ("dig", 0, 0), ("haul", 0, 9000),
                     ("set", 200, 100), ("cells", 1), ("slice", 900), ("tower", 2), ("filters", 1, 9, 1),
                     ("filter", 1), ("silo", 600), ("strike", 1, 1, 600 - cut), ("boil", 0), ("sale", 250, 9, 9),
                     ("sale", 350, 9, 9)]
            told = ask(calls + [("stored",), ("owed",), ("send", 0, 250), ("send", 1, 350)])
            self.assertEqual(told[-4:], [[600 - cut, 600, 0], [600], [2, 350 - 350], [-33] if cut else [3, 0]])


if __name__ == "__main__":
    unittest.main()
