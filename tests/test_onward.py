import unittest

from firstout.anew import anew, onward
from firstout.cuts import bound
from firstout.doors import Door
from firstout.first import best_cuts, first_out
from firstout.plans import faults, out_by, spent
from houses import (GREAT, drawn_houses, drawn_plan, is_lawful, large_house, outs_of, small_houses, told_otherwise,
                    yard_house)


class Onward(unittest.TestCase):
    def test_rows_below_the_turn_and_all_later_ones_sorted(self):
        plan = [(2, "d", 1), (0, "e", 2), (1, "d", 2), (0, "d", 2)]
        later = [(3, "d", 5), (2, "z", 1), (2, "a", 4)]
        self.assertEqual(onward(plan, 2, later),
                         [(0, "d", 2), (0, "e", 2), (1, "d", 2), (2, "a", 4), (2, "z", 1), (3, "d", 5)])

    def test_rows_as_they_are(self):
        plan = [(1, "d", 2), (0, "e", 0), (1, "d", 2), (1, "d", 0)]
        later = [(7, "d", 0), (5, "d", 1), (5, "d", 1), (0, "e", 3)]
        self.assertEqual(onward(plan, 5, later), [(0, "e", 0), (0, "e", 3), (1, "d", 0), (1, "d", 2), (1, "d", 2),
                                                  (5, "d", 1), (5, "d", 1), (7, "d", 0)])

    def test_turns_at_and_beyond_the_edges(self):
        plan = [(3, "d", 1), (4, "d", 2), (GREAT, "d", 3)]
        self.assertEqual(onward(plan, 0, []), [])
        self.assertEqual(onward(plan, 3, []), [])
        self.assertEqual(onward(plan, 4, []), [(3, "d", 1)])
        self.assertEqual(onward(plan, GREAT, []), [(3, "d", 1), (4, "d", 2)])
        self.assertEqual(onward(plan, GREAT + 1, []), plan)
        self.assertEqual(onward([], 4, [(9, "d", 1), (1, "d", 1)]), [(1, "d", 1), (9, "d", 1)])
        self.assertEqual(onward([], 0, []), [])

    def test_both_handed_in_stay_and_the_list_is_new(self):
        plan = [(2, "d", 1), (0, "e", 2)]
        later = [(4, "d", 1), (3, "d", 1)]
        told = onward(plan, 1, later)
        self.assertEqual((plan, later), ([(2, "d", 1), (0, "e", 2)], [(4, "d", 1), (3, "d", 1)]))
        told.clear()
        self.assertEqual((plan, later), ([(2, "d", 1), (0, "e", 2)], [(4, "d", 1), (3, "d", 1)]))
        told = onward(plan, 1, later)
        plan.clear()
        later.clear()
        self.assertEqual(told, [(0, "e", 2), (3, "d", 1), (4, "d", 1)])
        rows = [(0, "d", 1)]
        onward(rows, 1, []).clear()
        onward([], 1, rows).clear()
        self.assertEqual(rows, [(0, "d", 1)])


class PlannedAnew(unittest.TestCase):
    def test_first_out_has_as_many_out_by_each_turn_as_the_plan(self):
        for house in small_houses() + drawn_houses():
            plan = first_out(house)
            for turn in range(house.first, house.last + 1):
                whole = onward(plan, turn, first_out(anew(house, plan, turn)))
                self.assertEqual(faults(house, whole), [])
                self.assertEqual(outs_of(house, whole), outs_of(house, plan), turn)
                self.assertEqual(spent(house, whole), spent(house, plan))

    def test_first_out_planned_anew_at_every_turn(self):
        for house in [yard_house(4), large_house(), large_house(GREAT)]:
            plan = first_out(house)
            for turn in range(house.first, house.last + 1):
                plan = onward(plan, turn, first_out(anew(house, plan, turn)))
            self.assertEqual(faults(house, plan), [])
            self.assertEqual(outs_of(house, plan), outs_of(house, first_out(house)))

    def test_any_lawful_plans_one_behind_the_other_are_lawful(self):
        for seed, house in enumerate(drawn_houses()):
            plan = drawn_plan(house, seed)
            for turn in range(house.first, house.last + 1):
                new = anew(house, plan, turn)
                later = drawn_plan(new, seed + turn)
                whole = onward(told_otherwise(plan), turn, told_otherwise(later))
                self.assertEqual(faults(house, whole), [])
                self.assertTrue(house.total() > 1000 or is_lawful(house, whole))
                self.out_by_both(house, plan, turn, new, later, whole)

    def out_by_both(self, house, plan, turn, new, later, whole):
        for at in range(turn, house.last + 1):
            self.assertEqual(out_by(house, plan, turn) + out_by(new, later, at), out_by(house, whole, at))

    def test_with_happenings_what_was_done_stays_and_the_rest_is_first_out(self):
        # The exit falls shut, another door is found, and two people more.
        house = yard_house(6)
        plan = [(0, "d", 2), (0, "e", 2), (1, "d", 2), (2, "d", 1)]
        happenings = [("shut", "d", 2), ("door", Door("c", "yard", None, 1)), ("found", "yard", 2)]
        new = anew(house, plan, 1, happenings)
        later = first_out(new)
        self.assertEqual(outs_of(new, later), [0, 3, 4, 4, 4, 4])
        whole = onward(plan, 1, later)
        self.assertEqual([row for row in whole if row[0] < 1], [row for row in plan if row[0] < 1])
        self.assertEqual([row for row in whole if row[0] >= 1], later)
        for turn, cut in zip(range(1, 7), best_cuts(new), strict=True):
            self.assertEqual(bound(new, cut, turn), out_by(new, later, turn))


if __name__ == "__main__":
    unittest.main()
