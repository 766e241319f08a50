import unittest

from firstout.doors import Door, Since, Until
from firstout.first import all_out, most_by
from firstout.house import House
from houses import (GREAT, drawn_house, drawn_houses, hall_house, large_house, most_out_by_states, small_houses,
                    yard_house)


class MostBy(unittest.TestCase):
    def test_at_first_between_and_at_last(self):
        for first in [0, 3, GREAT]:
            house = yard_house(4, first)
            self.assertEqual([most_by(house, first + turn) for turn in range(5)], [0, 2, 4, 5, 5])

    def test_in_any_order_and_again(self):
        house = yard_house(3)
        self.assertEqual([most_by(house, turn) for turn in [3, 0, 2, 2, 1, 3]], [5, 0, 4, 4, 2, 5])

    def test_as_any_lawful_plan(self):
        for house in small_houses():
            turns = range(house.first, house.last + 1)
            self.assertEqual([most_by(house, turn) for turn in turns], most_out_by_states(house))

    def test_without_people_rooms_or_turns(self):
        self.assertEqual(most_by(House([], [], [], 3), 3), 0)
        self.assertEqual(most_by(House([("a", 3)], [Door("d", "a")], [], 3), 2), 0)
        self.assertEqual(most_by(House([("a", 3)], [Door("d", "a")], [("a", 3)], 6, 6), 6), 0)


class AllOut(unittest.TestCase):
    def test_the_least_turn(self):
        self.assertEqual(all_out(hall_house()), 2)
        self.assertEqual(all_out(hall_house(7)), 9)
        self.assertEqual([all_out(yard_house(last)) for last in [3, 4, 20]], [3, 3, 3])

    def test_none_where_there_is_none_up_to_last(self):
        self.assertIsNone(all_out(yard_house(2)))
        self.assertIsNone(all_out(House([("a", 1)], [], [("a", 1)], 20)))
        self.assertIsNone(all_out(House([("a", 1)], [Door("d", "a")], [("a", 1)], 3, 3)))
        self.assertIsNone(all_out(House([("a", 1)], [Since("d", "a", None, 1, 5)], [("a", 1)], 5)))

    def test_at_the_last_turn(self):
        self.assertEqual(all_out(House([("a", 1)], [Since("d", "a", None, 1, 4)], [("a", 1)], 5)), 5)

    def test_first_where_there_are_no_people(self):
        self.assertEqual(all_out(House([], [], [], 3)), 0)
        self.assertEqual(all_out(House([("a", 3)], [Door("d", "a")], [("a", 0)], 9, 4)), 4)
        self.assertEqual(all_out(House([("a", 3)], [], [], GREAT, GREAT)), GREAT)

    def test_a_turn_behind_the_first(self):
        self.assertEqual(all_out(House([("a", 3)], [Door("d", "a", None, 3)], [("a", 3)], 9, 4)), 5)

    def test_not_ahead_of_those_who_come_late(self):
        # Two are out at once, nobody for a while, the last one late.
        doors = [Until("d", "a", None, 2, 1), Since("e", "a", None, 1, 6)]
        self.assertEqual(all_out(House([("a", 3)], doors, [("a", 3)], 20)), 7)

    def test_as_most_by_tells(self):
        for house in small_houses() + drawn_houses() + [drawn_house(seed, 2, 5, 4, 3) for seed in range(40)]:
            turns = [turn for turn in range(house.first, house.last + 1) if most_by(house, turn) == house.total()]
            self.assertEqual(all_out(house), turns[0] if turns else None)

    def test_a_large_house(self):
        self.assertEqual(most_by(large_house(), 20), large_house().total())
        self.assertEqual(all_out(large_house(GREAT)), GREAT + all_out(large_house()))


if __name__ == "__main__":
    unittest.main()
