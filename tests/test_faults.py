import itertools
import unittest

from firstout.doors import Door
from firstout.house import House
from firstout.plans import faults
from houses import GREAT, each_kind, hall_house, is_lawful, large_house, plans_within_doors, small_houses, yard_house


class Lawful(unittest.TestCase):
    def test_the_example_of_the_document(self):
        self.assertEqual(faults(hall_house(), [(0, "d", 2), (1, "d", 1)]), [])

    def test_nobody_goes(self):
        for house in small_houses() + [large_house(), large_house(GREAT)]:
            self.assertEqual(faults(house, []), [])

    def test_in_any_order_with_rows_of_0_and_rows_told_twice(self):
        rows = [(0, "d", 1), (0, "d", 1), (0, "e", 2), (1, "d", 2), (2, "d", 0), (2, "d", 1)]
        for plan in itertools.permutations(rows):
            self.assertEqual(faults(yard_house(3), list(plan)), [])

    def test_just_those_plans_that_can_be_gone(self):
        for house in small_houses():
            for plan in plans_within_doors(house):
                self.assertEqual(faults(house, plan) == [], is_lawful(house, plan), plan)

    def test_all_who_are_in_a_room_may_leave_and_it_may_be_filled(self):
        house = House([("a", 2), ("b", 2)], [Door("d", "a", "b", 2), Door("e", "b", "a", 2)], [("a", 2), ("b", 2)], 2)
        self.assertEqual(faults(house, [(0, "d", 2), (0, "e", 2), (1, "e", 1), (1, "d", 1)]), [])


class DoorFaults(unittest.TestCase):
    def test_the_example_of_the_document(self):
        self.assertEqual(faults(hall_house(), [(0, "d", 3)]), [(0, "door", "d")])

    def test_of_each_kind_of_door(self):
        for first in [0, GREAT]:
            for door, lets in each_kind("d", "hall", None, first):
                house = House([("hall", 30)], [door], [("hall", 30)], first + 4, first)
                for more, number in enumerate(lets[:4]):
                    turn = first + more
                    self.assertEqual(faults(house, [(turn, "d", number)]), [], door)
                    self.assertEqual(faults(house, [(turn, "d", number + 1)]), [(turn, "door", "d")], door)

    def test_by_rows_that_add_up(self):
        self.assertEqual(faults(hall_house(), [(0, "d", 2), (0, "d", 0)]), [])
        self.assertEqual(faults(hall_house(), [(0, "d", 1), (0, "d", 1), (0, "d", 1)]), [(0, "door", "d")])
        self.assertEqual(faults(hall_house(), [(0, "d", 3), (0, "d", 0)]), [(0, "door", "d")])

    def test_of_a_door_that_there_is_none(self):
        for name in ["f", "hall", "", "D", "zz"]:
            for turn in [-1, 0, 1, 2, 3, GREAT]:
                self.assertEqual(faults(hall_house(), [(turn, name, 1)]), [(turn, "door", name)])
                self.assertEqual(faults(hall_house(), [(turn, name, 1), (turn, name, 1)]), [(turn, "door", name)])
                self.assertEqual(faults(hall_house(), [(turn, name, 0)]), [])

    def test_ahead_of_first_and_from_last_on(self):
        for turn in [-1, 0, 4, 7, 8, GREAT]:
            self.assertEqual(faults(hall_house(5), [(turn, "d", 1)]), [(turn, "door", "d")])
            self.assertEqual(faults(hall_house(5), [(turn, "d", 0)]), [])
        for turn in [5, 6]:
            self.assertEqual(faults(hall_house(5), [(turn, "d", 1)]), [])

    def test_last_equal_to_first(self):
        house = House([("hall", 3)], [Door("d", "hall", None, 2)], [("hall", 2)], 4, 4)
        self.assertEqual(faults(house, [(4, "d", 1)]), [(4, "door", "d")])
        self.assertEqual(faults(house, [(4, "d", 0)]), [])


class LeaveFaults(unittest.TestCase):
    def test_more_leave_than_are_in_it(self):
        plan = [(0, "e", 2), (0, "d", 2), (1, "e", 1), (1, "d", 1)]
        self.assertEqual(faults(yard_house(), plan), [(1, "leave", "yard")])

    def test_nobody_goes_through_two_doors_at_one_turn(self):
        house = House([("a", 2), ("b", 2)], [Door("d", "a", "b", 2), Door("e", "b", None, 2)], [("a", 2)], 2)
        self.assertEqual(faults(house, [(0, "d", 1), (1, "e", 1)]), [])
        self.assertEqual(faults(house, [(0, "d", 1), (0, "e", 1)]), [(0, "leave", "b")])

    def test_at_first(self):
        house = House([("a", 9)], [Door("d", "a", None, 9)], [("a", 2)], 2)
        self.assertEqual(faults(house, [(0, "d", 2)]), [])
        # Behind it fewer than 0 are in the room, so it has the fault even where nobody leaves.
        self.assertEqual(faults(house, [(0, "d", 3)]), [(0, "leave", "a"), (1, "leave", "a")])

    def test_not_at_last(self):
        house = House([("a", 9)], [Door("d", "a", None, 9)], [("a", 2)], 2)
        self.assertEqual(faults(house, [(1, "d", 3)]), [(1, "leave", "a")])

    def test_by_two_doors_together(self):
        doors = [Door("d", "a", None, 2), Door("e", "a", "b", 2)]
        house = House([("a", 9), ("b", 9)], doors, [("a", 3)], 1)
        self.assertEqual(faults(house, [(0, "d", 2), (0, "e", 1)]), [])
        self.assertEqual(faults(house, [(0, "d", 2), (0, "e", 2)]), [(0, "leave", "a")])

    def test_by_a_door_from_a_room_to_itself(self):
        house = House([("a", 3)], [Door("d", "a", "a", 9), Door("e", "a", None, 9)], [("a", 3)], 3)
        self.assertEqual(faults(house, [(0, "d", 3), (1, "d", 3)]), [])
        self.assertEqual(faults(house, [(0, "d", 4)]), [(0, "leave", "a")])
        self.assertEqual(faults(house, [(0, "d", 2), (0, "e", 1), (1, "d", 2)]), [])
        self.assertEqual(faults(house, [(0, "d", 3), (0, "e", 1)]), [(0, "leave", "a")])

    def test_those_who_come_back_mend_it(self):
        doors = [Door("d", "a", "b", 9), Door("e", "b", "a", 9)]
        house = House([("a", 9), ("b", 9)], doors, [("a", 1), ("b", 2)], 4)
        self.assertEqual(faults(house, [(0, "d", 2), (1, "e", 1)]), [(0, "leave", "a"), (1, "leave", "a")])


class FullFaults(unittest.TestCase):
    def test_more_come_than_it_holds(self):
        self.assertEqual(faults(yard_house(1), [(0, "e", 2)]), [(1, "full", "hall")])
        self.assertEqual(faults(yard_house(1), [(0, "e", 2), (0, "d", 1)]), [(1, "full", "hall")])
        self.assertEqual(faults(yard_house(1), [(0, "e", 2), (0, "d", 2)]), [])

    def test_at_each_turn_at_which_it_is_so_and_at_last(self):
        self.assertEqual(faults(yard_house(3), [(0, "e", 1)]), [(1, "full", "hall"), (2, "full", "hall"), (3, "full", "hall")])
        self.assertEqual(faults(yard_house(3), [(0, "e", 1), (1, "d", 1)]), [(1, "full", "hall")])
        self.assertEqual(faults(yard_house(3), [(2, "e", 1)]), [(3, "full", "hall")])

    def test_a_room_that_holds_none(self):
        house = House([("a", 1), ("b", 0)], [Door("d", "a", "b")], [("a", 1)], 1)
        self.assertEqual(faults(house, [(0, "d", 1)]), [(1, "full", "b")])


class Together(unittest.TestCase):
    def test_sorted_and_each_once(self):
        doors = [Door("z", "hall", "attic", 9), Door("b", "yard", "hall", 1), Door("a", "hall", None, 1)]
        house = House([("yard", 5), ("hall", 3), ("attic", 1)], doors, [("yard", 2), ("hall", 3)], 6, 4)
        plan = [(5, "z", 4), (6, "q", 1), (4, "b", 3), (4, "z", 2), (3, "a", 1), (4, "q", 1), (6, "q", 2), (4, "a", 1),
                (4, "b", 1), (5, "a", 2)]
        # At 5: yard 2 - 4, hall 3 - 2 - 1 + 4, attic 2; at 6: hall 4 - 4 - 2, attic 6.
        self.assertEqual(faults(house, plan), [
            (3, "door", "a"), (4, "door", "b"), (4, "door", "q"), (4, "leave", "yard"), (5, "door", "a"),
            (5, "full", "attic"), (5, "full", "hall"), (5, "leave", "hall"), (5, "leave", "yard"), (6, "door", "q"),
            (6, "full", "attic")])

    def test_the_same_whatever_the_order_of_the_rows(self):
        plan = [(1, "d", 4), (0, "e", 5), (0, "x", 1), (0, "x", 1), (2, "d", 1)]
        expected = [(0, "door", "e"), (0, "door", "x"), (0, "leave", "yard"), (1, "door", "d"), (1, "full", "hall"),
                    (1, "leave", "yard"), (2, "door", "d"), (2, "full", "hall")]
        for rows in itertools.permutations(plan):
            self.assertEqual(faults(yard_house(), list(rows)), expected)

    def test_turns_sort_as_numbers(self):
        plan = [(10, "x", 1), (9, "x", 1), (-1, "x", 1), (100, "x", 1)]
        self.assertEqual(faults(hall_house(), plan), [(turn, "door", "x") for turn in [-1, 9, 10, 100]])


class TheAskersOwn(unittest.TestCase):
    def test_the_list_told_and_the_plan_handed_in(self):
        house = yard_house()
        plan = [(1, "d", 4), (0, "e", 5), (0, "x", 0)]
        copy = list(plan)
        told = faults(house, plan)
        kept = list(told)
        self.assertEqual(plan, copy)
        self.assertEqual(faults(house, plan), kept)
        told.clear()
        self.assertEqual(faults(house, plan), kept)
        again = faults(house, plan)
        plan.clear()
        self.assertEqual(faults(house, plan), [])
        self.assertEqual(again, kept)


if __name__ == "__main__":
    unittest.main()
