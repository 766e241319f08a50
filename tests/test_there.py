import itertools
import unittest

from firstout.doors import Beat, Door
from firstout.house import House
from firstout.plans import there
from houses import GREAT, hall_house, large_house, yard_house

YARD_PLAN = [(0, "d", 2), (0, "e", 2), (1, "d", 2), (2, "d", 1)]
YARD_THERE = {("hall", 0): 3, ("yard", 0): 2, ("hall", 1): 3, ("yard", 1): 0, ("hall", 2): 1, ("yard", 2): 0,
              ("hall", 3): 0, ("yard", 3): 0}


class There(unittest.TestCase):
    def test_the_example_of_the_document(self):
        plan = [(0, "d", 2), (1, "d", 1)]
        self.assertEqual(there(hall_house(), plan), {("hall", 0): 3, ("hall", 1): 1, ("hall", 2): 0})

    def test_nobody_goes(self):
        for house in [hall_house(), yard_house(), large_house(), House([], [], [], 4), hall_house(GREAT)]:
            expected = {(room, turn): house.found(room) for room, turn in house.pairs()}
            self.assertEqual(there(house, []), expected)

    def test_from_room_to_room_and_out(self):
        self.assertEqual(there(yard_house(3), YARD_PLAN), YARD_THERE)

    def test_first_is_not_0(self):
        for first in [5, GREAT]:
            plan = [(first + turn, name, number) for turn, name, number in YARD_PLAN]
            expected = {(room, first + turn): number for (room, turn), number in YARD_THERE.items()}
            self.assertEqual(there(yard_house(3, first), plan), expected)

    def test_last_equal_to_first(self):
        house = House([("hall", 3)], [Door("d", "hall", None, 2)], [("hall", 2)], 4, 4)
        for plan in [[], [(4, "d", 1)], [(3, "d", 1)]]:
            self.assertEqual(there(house, plan), {("hall", 4): 2})

    def test_rows_in_any_order(self):
        for plan in itertools.permutations(YARD_PLAN):
            self.assertEqual(there(yard_house(3), list(plan)), YARD_THERE)

    def test_rows_of_0(self):
        plan = [(0, "d", 0), (1, "e", 0)] + YARD_PLAN + [(0, "d", 0), (2, "e", 0)]
        self.assertEqual(there(yard_house(3), plan), YARD_THERE)

    def test_a_turn_and_door_more_than_once(self):
        plan = [(0, "d", 1), (0, "e", 1), (1, "d", 2), (0, "d", 1), (2, "d", 1), (0, "e", 1), (0, "e", 0)]
        self.assertEqual(there(yard_house(3), plan), YARD_THERE)

    def test_rows_of_strange_doors_and_strange_turns_count_for_nothing(self):
        strange = [(0, "f", 1), (0, "hall", 1), (1, "", 5), (3, "d", 1), (3, "e", 1), (4, "d", 1), (GREAT, "e", 1),
                   (-1, "d", 1), (3, "f", 1), (-1, "e", 2)]
        self.assertEqual(there(yard_house(3), YARD_PLAN + strange), YARD_THERE)
        self.assertEqual(there(yard_house(3), strange + YARD_PLAN), YARD_THERE)
        plan = [(6, "e", 2), (7, "d", 1), (9, "e", 2), (10, "d", 1), (0, "d", 1), (2, "e", 1)]
        self.assertEqual(there(yard_house(2, 7), plan), {
            ("hall", 7): 3, ("yard", 7): 2, ("hall", 8): 2, ("yard", 8): 2, ("hall", 9): 2, ("yard", 9): 2})

    def test_people_below_0(self):
        self.assertEqual(there(hall_house(), [(0, "d", 5)]), {("hall", 0): 3, ("hall", 1): -2, ("hall", 2): -2})
        self.assertEqual(there(yard_house(), [(0, "e", 7), (1, "d", 20)]), {
            ("hall", 0): 3, ("yard", 0): 2, ("hall", 1): 10, ("yard", 1): -5, ("hall", 2): -10, ("yard", 2): -5})

    def test_doors_that_let_none_bring_them_there_all_the_same(self):
        house = House([("a", 2), ("b", 2)], [Beat("d", "a", "b", 1, 2)], [("a", 2)], 3)
        self.assertEqual(there(house, [(1, "d", 2)]), {
            ("a", 0): 2, ("b", 0): 0, ("a", 1): 2, ("b", 1): 0, ("a", 2): 0, ("b", 2): 2, ("a", 3): 0, ("b", 3): 2})

    def test_a_door_from_a_room_to_itself(self):
        house = House([("a", 2)], [Door("d", "a", "a", 9)], [("a", 2)], 2)
        for number in [1, 2, 3]:
            self.assertEqual(there(house, [(0, "d", number)]), {("a", 0): 2, ("a", 1): 2, ("a", 2): 2})

    def test_two_doors_from_and_two_into_one_room(self):
        doors = [Door("p", "a", "b", 9), Door("q", "a", "b", 9), Door("r", "b", "a", 9), Door("s", "b", None, 9)]
        house = House([("a", 50), ("b", 50)], doors, [("a", 10), ("b", 20)], 1)
        self.assertEqual(there(house, [(0, "p", 1), (0, "q", 2), (0, "r", 4), (0, "s", 8)]),
                         {("a", 0): 10, ("b", 0): 20, ("a", 1): 11, ("b", 1): 11})

    def test_the_last_row_of_turns(self):
        plan = [(19, "right", 2), (19, "left", 1), (20, "right", 1)]
        inside = there(large_house(), plan)
        self.assertEqual([inside[(room, 19)] for room in ["aa", "bb", "hh"]], [9, 9, 9])
        self.assertEqual([inside[(room, 20)] for room in ["aa", "bb", "hh"]], [8, 9, 7])

    def test_the_dict_is_the_askers_own(self):
        house = yard_house(3)
        plan = list(YARD_PLAN)
        told = there(house, plan)
        told[("hall", 0)] = 99
        told.clear()
        self.assertEqual(there(house, plan), YARD_THERE)
        kept = there(house, plan)
        plan.clear()
        there(house, plan)
        self.assertEqual(kept, YARD_THERE)
        self.assertEqual((house.found("hall"), house.total()), (3, 5))

    def test_the_plan_is_not_changed(self):
        plan = [(1, "d", 2), (0, "d", 0), (9, "x", 1), (0, "d", 2), (0, "e", 1), (0, "e", 1)]
        copy = list(plan)
        there(yard_house(3), plan)
        self.assertEqual(plan, copy)


if __name__ == "__main__":
    unittest.main()
