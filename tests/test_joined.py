import unittest

from firstout.doors import Door
from firstout.house import House
from firstout.walks import joined, walks
from houses import GREAT, houses_with_plans, told_of, told_otherwise, yard_house


class Joined(unittest.TestCase):
    def test_of_the_walks_is_the_plan(self):
        for house, plan in houses_with_plans():
            self.assertEqual(joined(house, walks(house, plan)), plan)
            self.assertEqual(joined(house, list(reversed(walks(house, plan)))), plan)

    def test_of_a_plan_told_otherwise_is_the_plan_as_told(self):
        for house, plan in houses_with_plans()[::9]:
            self.assertEqual(joined(house, walks(house, told_otherwise(plan))), plan)

    def test_walks_through_one_door_at_one_turn_add_up(self):
        told = [(2, "hall", ["d"]), (3, "yard", ["e", None, "d"]), (1, "hall", ["d"]), (4, "yard", ["e", "d"])]
        self.assertEqual(joined(yard_house(3), told), [(0, "d", 3), (0, "e", 7), (1, "d", 4), (2, "d", 3)])

    def test_turns_begin_with_first(self):
        told = [(2, "yard", [None, "e", "d"])]
        self.assertEqual(joined(yard_house(3, 7), told), [(8, "e", 2), (9, "d", 2)])
        self.assertEqual(joined(yard_house(3, GREAT), told), [(GREAT + 1, "e", 2), (GREAT + 2, "d", 2)])

    def test_who_stays_is_in_no_row(self):
        self.assertEqual(joined(yard_house(), []), [])
        self.assertEqual(joined(yard_house(), [(3, "hall", [None, None]), (2, "yard", [None, None])]), [])
        self.assertEqual(joined(yard_house(0), [(3, "hall", []), (2, "yard", [])]), [])

    def test_how_many_are_in_the_rooms_is_not_asked(self):
        told = [(GREAT, "hall", ["d"]), (GREAT, "hall", ["d"]), (5, "hall", [None, "d"])]
        self.assertEqual(joined(yard_house(), told), [(0, "d", 2 * GREAT), (1, "d", 5)])

    def test_sorted_by_turn_then_by_door(self):
        house = House([("a", 9)], [Door("z", "a", "a"), Door("b", "a", "a"), Door("m", "a", "a")], [("a", 9)], 2)
        told = [(1, "a", ["z", "b"]), (2, "a", ["m", "z"]), (3, "a", ["b", "m"])]
        self.assertEqual(joined(house, told),
                         [(0, "b", 3), (0, "m", 2), (0, "z", 1), (1, "b", 1), (1, "m", 3), (1, "z", 2)])

    def test_nothing_handed_in_is_changed_and_the_list_is_new(self):
        house = yard_house()
        before = told_of(house)
        steps = ["e", "d"]
        told = [(2, "yard", steps)]
        plan = joined(house, told)
        self.assertEqual(told, [(2, "yard", ["e", "d"])])
        steps.clear()
        told.clear()
        self.assertEqual(plan, [(0, "e", 2), (1, "d", 2)])
        plan.clear()
        self.assertEqual(joined(house, [(2, "yard", ["e", "d"])]), [(0, "e", 2), (1, "d", 2)])
        self.assertEqual(told_of(house), before)


if __name__ == "__main__":
    unittest.main()
