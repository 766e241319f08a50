import itertools
import unittest

from firstout.doors import Door
from firstout.house import House
from firstout.plans import out_by, spent
from houses import GREAT, hall_house, large_house, lawful_plans, small_houses, yard_house

YARD_PLAN = [(0, "d", 2), (0, "e", 2), (1, "d", 2), (2, "d", 1)]


def outs(house, plan):
    return [out_by(house, plan, turn) for turn in range(house.first, house.last + 1)]


class OutBy(unittest.TestCase):
    def test_the_example_of_the_document(self):
        self.assertEqual(outs(hall_house(), [(0, "d", 2), (1, "d", 1)]), [0, 2, 3])

    def test_at_first_between_and_at_last(self):
        self.assertEqual(outs(yard_house(3), YARD_PLAN), [0, 2, 4, 5])
        self.assertEqual(outs(yard_house(4), YARD_PLAN), [0, 2, 4, 5, 5])
        for first in [6, GREAT]:
            plan = [(first + turn, name, number) for turn, name, number in YARD_PLAN]
            self.assertEqual(outs(yard_house(3, first), plan), [0, 2, 4, 5])

    def test_nobody_goes(self):
        self.assertEqual(outs(yard_house(3), []), [0, 0, 0, 0])
        self.assertEqual(outs(House([], [], [], 1), []), [0, 0])

    def test_only_doors_that_lead_out(self):
        self.assertEqual(outs(yard_house(2), [(0, "e", 2), (1, "e", 1)]), [0, 0, 0])

    def test_two_doors_that_lead_out(self):
        doors = [Door("p", "a", None, 9), Door("q", "b", None, 9), Door("r", "a", "b", 9)]
        house = House([("a", 9), ("b", 9)], doors, [("a", 9), ("b", 9)], 2)
        self.assertEqual(outs(house, [(0, "p", 1), (0, "q", 2), (1, "q", 3), (1, "r", 1)]), [0, 3, 6])

    def test_rows_in_any_order_of_0_and_more_than_once(self):
        rows = [(1, "d", 1), (0, "d", 2), (2, "d", 1), (1, "d", 1), (0, "d", 0), (0, "e", 2)]
        for plan in itertools.permutations(rows):
            self.assertEqual(outs(yard_house(3), list(plan)), [0, 2, 4, 5])

    def test_rows_of_strange_doors_and_strange_turns_count_for_nothing(self):
        plan = [(6, "d", 1), (7, "d", 2), (8, "d", 1), (9, "d", 1), (10, "d", 1), (7, "x", 5), (0, "d", 1), (7, "hall", 1)]
        house = yard_house(2, 7)
        self.assertEqual(outs(house, plan), [0, 2, 3])
        self.assertEqual([out_by(house, plan, turn) for turn in [0, 1, 6, 10, 11, GREAT]], [0, 0, 0, 3, 3, 3])

    def test_with_faults_too(self):
        self.assertEqual(outs(hall_house(), [(0, "d", 7), (1, "d", 8)]), [0, 7, 15])

    def test_last_equal_to_first(self):
        house = House([("hall", 3)], [Door("d", "hall", None, 2)], [("hall", 2)], 4, 4)
        self.assertEqual(out_by(house, [(4, "d", 1), (3, "d", 1)], 4), 0)


class Spent(unittest.TestCase):
    def test_the_example_of_the_document(self):
        self.assertEqual(spent(hall_house(), [(0, "d", 2), (1, "d", 1)]), 4)

    def test_nobody_goes(self):
        self.assertEqual(spent(hall_house(), []), 6)
        self.assertEqual(spent(yard_house(3, 8), []), 15)
        self.assertEqual(spent(large_house(), []), 20 * 72)
        self.assertEqual(spent(House([], [], [], 5), []), 0)

    def test_some_stay(self):
        self.assertEqual(spent(yard_house(2), [(0, "d", 2), (1, "d", 1)]), 2 * 1 + 1 * 2 + 2 * 2)
        self.assertEqual(spent(yard_house(3), YARD_PLAN), 2 * 1 + 2 * 2 + 1 * 3)

    def test_first_is_not_0(self):
        for first in [3, GREAT]:
            self.assertEqual(spent(hall_house(first), [(first, "d", 2), (first + 1, "d", 1)]), 4)

    def test_last_equal_to_first(self):
        house = House([("hall", 3)], [Door("d", "hall", None, 2)], [("hall", 2)], 4, 4)
        self.assertEqual(spent(house, []), 0)
        self.assertEqual(spent(house, [(4, "d", 2)]), 0)

    def test_person_by_person_of_lawful_plans(self):
        for house in small_houses():
            for plan in lawful_plans(house)[::7]:
                out = [(turn, number) for turn, name, number in plan if house.door(name).end is None]
                stayed = house.total() - sum(number for turn, number in out)
                expected = sum(number * (turn + 1 - house.first) for turn, number in out)
                self.assertEqual(spent(house, plan), expected + stayed * (house.last - house.first))

    def test_of_plans_with_faults(self):
        # More are out than there are: 3 at turn 0, 3 - 5 at turn 1.
        self.assertEqual(spent(hall_house(), [(0, "d", 5)]), 1)
        self.assertEqual(spent(hall_house(), [(0, "d", 9), (1, "d", 9)]), 3 + 3 - 9)
        self.assertEqual(spent(hall_house(5), [(4, "d", 9), (7, "d", 9), (5, "x", 9), (5, "d", 1)]), 3 + 2)

    def test_rows_of_0_and_more_than_once(self):
        self.assertEqual(spent(hall_house(), [(1, "d", 1), (0, "d", 1), (0, "d", 0), (0, "d", 1), (1, "d", 0)]), 4)


class NothingIsChanged(unittest.TestCase):
    def test_by_asking(self):
        house = yard_house(3)
        plan = [(1, "d", 2), (0, "x", 1), (0, "d", 1), (0, "d", 1), (0, "e", 0)]
        copy = list(plan)
        told = [(outs(house, plan), spent(house, plan)) for time in range(2)]
        self.assertEqual(told[0], told[1])
        self.assertEqual(plan, copy)
        self.assertEqual((house.total(), house.found("hall"), house.doors()), (5, 3, ["d", "e"]))


if __name__ == "__main__":
    unittest.main()
