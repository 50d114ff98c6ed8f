import random
import unittest

from calling import MOST, CallTest, ask, last
from beetcampaign.campaign import Campaign
from beetcampaign.tower import mixing
from beetcampaign.tower_calls import run_tower, set_cells, set_dirt, set_slice

START = [("start", [30000])]


def hopper_of(kilograms):
    """A hopper with so many kilograms of sugar: of beets that hold a tenth, ten times as many."""
    tons = (kilograms * 10 + 999) // 1000
    return START + [("grower", 1), ("field", 0, tons, [1000]), ("dig", 0, 0), ("haul", 0, kilograms * 10)]


def row_behind(beets, juice, fed, draft, mixed):
    """The row behind a tick, cell by cell as the document tells it."""
    moved = []
    count = len(beets)
    for cell in range(count):
        wet = fed if cell == 0 else beets[cell - 1]
        sweet = 0 if cell == count - 1 else juice[cell + 1]
        alike = (wet + sweet) * 100 // (100 + draft)
        part = abs(wet - alike) * mixed // 100
        moved.append((wet - part, sweet + part) if wet >= alike else (wet + part, sweet - part))
    return [cell[0] for cell in moved], [cell[1] for cell in moved]


class SetTest(CallTest):
    def test_least_and_greatest(self):
        for draft, mixed in ((50, 0), (200, 100), (100, 50)):
            self.check(START + [("set", draft, mixed)], [0])

    def test_at_first(self):
        # Draft 100 and mixed 50: a quarter of what is fed goes into the juice.
        calls = hopper_of(10000) + [("cells", 1), ("slice", 10000), ("tower", 1), ("cell", 0)]
        self.check(calls, [7500, 2500])

    def test_draft_and_mixed(self):
        for draft, mixed, cell in ((50, 100, [66, 34]), (200, 100, [33, 67]), (100, 0, [100, 0]), (100, 100, [50, 50]),
                                   (150, 33, [81, 19])):
            calls = hopper_of(100) + [("set", draft, mixed), ("cells", 1), ("slice", 100), ("tower", 1), ("cell", 0)]
            self.check(calls, cell)

    def test_refused(self):
        before = hopper_of(900) + [("set", 150, 33), ("cells", 3), ("slice", 100), ("tower", 4)]
        for draft, mixed in ((49, 50), (201, 50), (100, 101), (0, 0), (MOST, 0), (100, MOST)):
            self.check_refused(before, ("set", draft, mixed), -22)
        # What was set last is what it mixes by from now on.
        more = [("tower", 1), ("cell", 0), ("cell", 1), ("cell", 2)]
        refused = ask(before + [("set", 49, 0), ("set", 50, 101)] + more)
        self.assertEqual(refused[-4:], ask(before + more)[-4:])


class CellsTest(CallTest):
    def test_how_many_there_were(self):
        self.check_all([(START[0], [0]), (("cells", 12), [0]), (("in_tower",), [0, 12, 0]), (("cells", 1), [12]),
                        (("in_tower",), [0, 1, 0]), (("cell", 0), [0, 0]), (("cell", 1), [-2]), (("cells", 5), [1])])

    def test_refused(self):
        before = START + [("cells", 3)]
        for count in (0, 13, MOST):
            self.check_refused(before, ("cells", count), -22)
            self.check_refused(START, ("cells", count), -22)

    def test_sugar_in_the_tower(self):
        before = hopper_of(100) + [("cells", 3), ("slice", 10), ("tower", 1)]
        self.check_refused(before, ("cells", 3), -16)
        self.check_refused(before, ("cells", 13), -22)

    def test_sugar_in_the_juice_alone(self):
        # Mixed wholly at draft 100, one kilogram goes into the juice.
        before = hopper_of(1) + [("set", 100, 100), ("cells", 2), ("slice", 1), ("tower", 1)]
        self.check(before + [("cell", 0)], [0, 1])
        self.check_refused(before, ("cells", 2), -16)

    def test_sugar_in_the_hopper_is_not_in_the_tower(self):
        self.check(hopper_of(100) + [("cells", 3), ("slice", 10), ("cells", 4)], [3])

    def test_told_again_when_it_has_run_empty(self):
        before = hopper_of(100) + [("cells", 3), ("slice", 50), ("tower", 60), ("tower", 60)]
        self.check(before + [("in_tower",)], [0, 3, 0])
        self.check(before + [("cells", 2)], [3])
        self.check(before + [("cells", 2), ("cell", 2)], [-2])


class SliceAndDirtTest(CallTest):
    def test_what_it_was(self):
        self.check_all([(START[0], [0]), (("slice", 1), [0]), (("slice", 10000), [1]), (("slice", 7), [10000]),
                        (("dirt", 300), [0]), (("dirt", 0), [300]), (("dirt", 1), [0])])

    def test_refused(self):
        before = START + [("slice", 50), ("dirt", 20)]
        for call in (("slice", 0), ("slice", 10001), ("slice", MOST), ("dirt", 301), ("dirt", MOST)):
            self.check_refused(before, call, -22)
            self.check_refused(START, call, -22)
        self.check(before + [("slice", 0), ("slice", 1)], [50])
        self.check(before + [("dirt", 301), ("dirt", 1)], [20])


class RawJuiceTest(unittest.TestCase):
    def test_what_comes_with_the_juice(self):
        works = Campaign([1])
        works.hopper = 1000
        set_cells(works, 1)
        set_slice(works, 99)
        set_dirt(works, 300)
        self.assertEqual((works.raw.sugar, works.raw.others), (0, 0))
        # Of 99 fed 25 are in the juice behind the tick, and drawn in the next; of 25 come 7 of other things.
        self.assertEqual(run_tower(works, 1), [0, 0, 901])
        self.assertEqual((works.raw.sugar, works.raw.others), (0, 0))
        self.assertEqual(run_tower(works, 2), [50, 148, 703])
        self.assertEqual((works.raw.sugar, works.raw.others), (50, 14))
        set_dirt(works, 0)
        run_tower(works, 1)
        self.assertEqual((works.raw.sugar, works.raw.others), (75, 14))

    def test_thousandths_rounded_down(self):
        for drawn, dirt, others in ((27, 111, 2), (27, 112, 3), (10, 300, 3), (10, 299, 2), (3, 300, 0)):
            works = Campaign([1])
            set_cells(works, 1)
            set_slice(works, 1)
            set_dirt(works, dirt)
            works.tower.juice = [drawn]
            self.assertEqual(run_tower(works, 1), [drawn, 0, 0])
            self.assertEqual((works.raw.sugar, works.raw.others), (drawn, others))


class TowerTest(CallTest):
    def test_one_cell(self):
        before = hopper_of(1000) + [("cells", 1), ("slice", 100)]
        self.check(before + [("tower", 1)], [0, 0, 900])
        self.check(before + [("tower", 2)], [25, 75, 800])
        self.check(before + [("tower", 10)], [225, 675, 0])

    def test_two_cells(self):
        before = hopper_of(1000) + [("cells", 2), ("slice", 100)]
        self.check(before + [("tower", 1), ("cell", 0)], [75, 25])
        self.check(before + [("tower", 1), ("cell", 1)], [0, 0])
        # Behind the second tick 75 have come into the last cell: alike 37, of 38 the half goes over.
        self.check(before + [("tower", 2)], [25, 0, 800])
        self.check(before + [("tower", 2), ("cell", 0)], [75, 25])
        self.check(before + [("tower", 2), ("cell", 1)], [56, 19])
        # Then 19 of juice go back to the first: alike 59, of 41 the half.
        self.check(before + [("tower", 3)], [50, 56, 700])
        self.check(before + [("tower", 3), ("cell", 0)], [80, 39])
        self.check(before + [("tower", 3), ("in_tower",)], [80 + 39 + 56 + 19, 2, 700])

    def test_from_juice_to_beets(self):
        # Beets without sugar come into a cell whose juice has some.
        self.assertEqual(mixing(0, 100, 100, 50), -25)
        self.assertEqual(mixing(0, 3, 100, 50), 0)
        self.assertEqual(mixing(1, 10, 100, 50), -2)
        self.assertEqual(mixing(10, 1, 100, 50), 2)
        self.assertEqual(mixing(5, 5, 100, 100), 0)
        self.assertEqual(mixing(0, 0, 100, 100), 0)
        before = hopper_of(100) + [("set", 100, 100), ("cells", 2), ("slice", 100), ("tower", 2)]
        self.check(before + [("cell", 0)], [0, 0])
        self.check(before + [("cell", 1)], [25, 25])
        self.check(before + [("tower", 1), ("cell", 0)], [12, 13])

    def test_a_hopper_that_runs_empty(self):
        before = hopper_of(250) + [("cells", 1), ("slice", 100), ("set", 100, 0)]
        told = ask(before + [("tower", 1)] * 5)
        self.assertEqual(told[-5:], [[0, 0, 150], [0, 100, 50], [0, 100, 0], [0, 50, 0], [0, 0, 0]])
        self.check(before + [("tower", 60), ("in_tower",)], [0, 1, 0])

    def test_an_empty_hopper(self):
        self.check(START + [("cells", 3), ("slice", 5), ("tower", 60)], [0, 0, 0])

    def test_ticks_one_by_one_are_ticks_at_once(self):
        before = hopper_of(2000) + [("cells", 5), ("slice", 93), ("set", 113, 67)]
        tells = [("cell", i) for i in range(5)] + [("in_tower",)]
        single = ask(before + [("tower", 1)] * 40 + tells)
        together = ask(before + [("tower", 40)] + tells)
        self.assertEqual(single[-6:], together[-6:])
        ticks = single[len(before):-6]
        self.assertEqual(together[-7], [sum(told[0] for told in ticks), sum(told[1] for told in ticks), ticks[-1][2]])

    def test_against_cells_one_by_one(self):
        source = random.Random(7)
        for trial in range(25):
            count = source.randint(1, 12)
            draft = source.choice((50, 99, 113, 200))
            mixed = source.choice((0, 1, 37, 50, 100))
            portion = source.choice((1, 7, 93, 1000, 10000))
            hopper = source.choice((5, 500, 20000))
            ticks = source.randint(1, 60)
            calls = hopper_of(hopper) + [("cells", count), ("slice", portion), ("set", draft, mixed), ("tower", ticks)]
            beets, juice = [0] * count, [0] * count
            drawn = pulp = 0
            for tick in range(ticks):
                drawn += juice[0]
                pulp += beets[-1]
                fed = min(hopper, portion)
                hopper -= fed
                beets, juice = row_behind(beets, juice, fed, draft, mixed)
            told = ask(calls + [("cell", i) for i in range(count)])
            self.assertEqual(told[len(calls) - 1], [drawn, pulp, hopper])
            self.assertEqual(told[len(calls):], [[wet, sweet] for wet, sweet in zip(beets, juice)])

    def test_refused(self):
        ready = hopper_of(100) + [("cells", 2), ("slice", 5), ("tower", 60)]
        for ticks in (0, 61, MOST):
            self.check_refused(ready, ("tower", ticks), -22)
            self.check_refused(START, ("tower", ticks), -22)

    def test_not_ready(self):
        for before in (START, START + [("cells", 2)], START + [("slice", 5)]):
            self.check_refused(before, ("tower", 1), -6)
            self.check_refused(before, ("steady",), -6)
            self.check_refused(before, ("tower", 61), -22)


class TellTest(CallTest):
    def test_cell(self):
        before = START + [("cells", 12)]
        self.check(before + [("cell", 11)], [0, 0])
        self.check_refused(before, ("cell", 12), -2)
        self.check_refused(before, ("cell", MOST), -2)
        self.check_refused(START, ("cell", 0), -2)

    def test_in_tower(self):
        self.check(START + [("in_tower",)], [0, 0, 0])
        self.check(hopper_of(100) + [("in_tower",)], [0, 0, 100])
        self.check(hopper_of(100) + [("cells", 3), ("slice", 30), ("tower", 1), ("in_tower",)], [30, 3, 70])


class SteadyTest(CallTest):
    def test_one_cell(self):
        self.check(START + [("cells", 1), ("slice", 100), ("steady",)], [1, 25, 75])
        self.check(START + [("cells", 1), ("slice", 1), ("steady",)], [1, 0, 1])

    def test_without_mixing(self):
        # Beets alone go through: the row is full behind as many ticks as there are cells.
        for count in (1, 5, 12):
            self.check(START + [("set", 100, 0), ("cells", count), ("slice", 100), ("steady",)], [count, 0, 100])

    def test_two_cells(self):
        row = [0, 0], [0, 0]
        rows = [row]
        for tick in range(30):
            row = row_behind(row[0], row[1], 100, 100, 50)
            rows.append(row)
        ticks = min(place for place in range(30) if rows[place] == rows[place + 1])
        beets, juice = rows[ticks]
        self.check(START + [("cells", 2), ("slice", 100), ("steady",)], [ticks, juice[0], beets[1]])

    def test_the_object_stays(self):
        before = hopper_of(500) + [("cells", 3), ("slice", 70), ("tower", 2)]
        tells = [("cell", 0), ("cell", 1), ("cell", 2), ("in_tower",)]
        self.assertEqual(ask(before + [("steady",)] + tells)[-4:], ask(before + tells)[-4:])
        fresh = START + [("cells", 3), ("slice", 70), ("steady",)]
        self.assertEqual(last(before + [("steady",)]), last(fresh))

    def test_the_dirt_does_not_matter(self):
        self.assertEqual(last(START + [("cells", 4), ("slice", 777), ("steady",)]),
                         last(START + [("cells", 4), ("slice", 777), ("dirt", 300), ("steady",)]))


def steady_by_rows(count, portion, draft, mixed):
    """What steady is to answer, row by row."""
    beets, juice = [0] * count, [0] * count
    for ticks in range(300):
        row = row_behind(beets, juice, portion, draft, mixed)
        if row == (beets, juice):
            return [ticks, juice[0], beets[-1]]
        beets, juice = row
    return [-33]


def tower_set(count, portion, draft, mixed):
    return START + [("set", draft, mixed), ("cells", count), ("slice", portion)]


class SteadyByRowsTest(CallTest):
    def test_many_settings(self):
        for count in (1, 2, 3, 7, 12):
            for portion in (1, 100, 9999, 10000):
                for draft, mixed in ((50, 100), (100, 50), (113, 67), (200, 1), (200, 100), (100, 7), (50, 3)):
                    expected = steady_by_rows(count, portion, draft, mixed)
                    self.check(tower_set(count, portion, draft, mixed) + [("steady",)], expected)
                    self.assertEqual(expected[1] + expected[2], portion)

    def test_behind_just_fewer_than_300_ticks(self):
        told = last(tower_set(12, 9027, 98, 97) + [("steady",)])
        self.assertEqual(told[0], 299)
        self.assertEqual(told, steady_by_rows(12, 9027, 98, 97))

    def test_behind_300_ticks(self):
        self.check_refused(tower_set(12, 9036, 102, 100), ("steady",), -33)
        self.check_refused(tower_set(12, 9453, 92, 99), ("steady",), -33)

    def test_the_tower_comes_to_draw_what_was_told(self):
        calls = hopper_of(400000) + [("cells", 4), ("slice", 5000), ("steady",), ("tower", 60), ("tower", 1)]
        told = ask(calls)
        self.assertLessEqual(told[-3][0], 60)
        self.assertEqual(told[-1][:2], told[-3][1:])


def fewest_by_rows(wanted, portion, draft, mixed):
    """What fewest is to answer, each number of cells tried row by row."""
    for count in range(1, 13):
        steady = steady_by_rows(count, portion, draft, mixed)
        if steady[0] >= 0 and steady[1] * 10000 // portion >= wanted:
            return [count]
    return [-33]


class FewestTest(CallTest):
    def test_just_as_many_as_are_wanted(self):
        # Of 100 that are fed one cell draws 25, two 40, three 50.
        before = START + [("slice", 100)]
        for wanted, count in ((0, 1), (2500, 1), (2501, 2), (4000, 2), (4001, 3), (5000, 3), (5001, 4), (8000, 12)):
            self.check(before + [("fewest", wanted)], [count])
        self.check_refused(before, ("fewest", 8001), -33)
        self.check_refused(before, ("fewest", 10000), -33)

    def test_rounding_does_not_make_it_enough(self):
        # Of 3 one cell draws 2, which is a bit more than 6,666 of ten thousand.
        before = START + [("set", 200, 100), ("slice", 3)]
        for wanted, count in ((6666, 1), (6667, 2), (10000, 2)):
            self.check(before + [("fewest", wanted)], [count])

    def test_many_settings(self):
        for portion in (1, 100, 9999):
            for draft, mixed in ((50, 100), (100, 50), (113, 67), (200, 1), (200, 100), (100, 0)):
                for wanted in (0, 1, 3000, 6500, 9900, 10000):
                    expected = fewest_by_rows(wanted, portion, draft, mixed)
                    self.check(START + [("set", draft, mixed), ("slice", portion), ("fewest", wanted)], expected)

    def test_cells_that_do_not_come_to_be_steady(self):
        # Twelve cells, set so, aren't steady behind fewer than 300 ticks; more than eleven draw is wanted.
        before = START + [("set", 102, 100), ("slice", 9036)]
        drawn = last(before + [("cells", 11), ("steady",)])[1]
        self.check(before + [("fewest", drawn * 10000 // 9036)], [11])
        self.check_refused(before, ("fewest", drawn * 10000 // 9036 + 1), -33)

    def test_cells_and_sugar_that_are_there_do_not_matter(self):
        before = hopper_of(500) + [("cells", 5), ("slice", 100), ("tower", 3)]
        self.check(before + [("fewest", 4001)], [3])
        tells = [("cell", i) for i in range(5)] + [("in_tower",), ("yield",)]
        self.assertEqual(ask(before + [("fewest", 4001)] + tells)[-7:], ask(before + tells)[-7:])

    def test_refused(self):
        for wanted in (10001, MOST):
            self.check_refused(START + [("slice", 100)], ("fewest", wanted), -22)
            self.check_refused(START, ("fewest", wanted), -22)
        self.check_refused(START, ("fewest", 0), -6)
        self.check_refused(START + [("cells", 4)], ("fewest", 10000), -6)


class YieldTest(CallTest):
    def test_nothing_was_fed(self):
        for before in (START, hopper_of(100), START + [("cells", 2), ("slice", 5), ("tower", 60)],
                       hopper_of(100) + [("cells", 2), ("slice", 5)]):
            self.check_refused(before, ("yield",), -6)

    def test_one_cell(self):
        before = hopper_of(1000) + [("cells", 1), ("slice", 100)]
        self.check(before + [("tower", 1), ("yield",)], [0, 100, 0, 0])
        self.check(before + [("tower", 2), ("yield",)], [1250, 200, 25, 75])
        self.check(before + [("tower", 3), ("yield",)], [1666, 300, 50, 150])
        self.check(before + [("tower", 60), ("yield",)], [2500, 1000, 250, 750])

    def test_all_is_drawn(self):
        calls = hopper_of(9) + [("set", 200, 100), ("cells", 12), ("slice", 3), ("tower", 60), ("yield",)]
        self.check(calls, [10000, 9, 9, 0])

    def test_over_several_times(self):
        calls = hopper_of(1000) + [("cells", 1), ("slice", 100), ("tower", 4), ("slice", 50), ("tower", 2)]
        # Of 50 the half is alike, and of the 25 that differ 12 go into the juice.
        self.check(calls + [("yield",)], [(25 * 4 + 12) * 10000 // 500, 500, 25 * 4 + 12, 75 * 4 + 38])

    def test_cells_told_again_leave_it(self):
        before = hopper_of(250) + [("cells", 1), ("slice", 100), ("tower", 60)]
        self.assertEqual(ask(before + [("yield",), ("cells", 3), ("yield",)])[-3::2], [[2480, 250, 62, 188]] * 2)


if __name__ == "__main__":
    unittest.main()
