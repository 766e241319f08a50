import unittest

from firstout.doors import Beat, Door, Marked, Since, Until
from firstout.first import lost
from firstout.house import House
from houses import GREAT, drawn_house, drawn_houses, each_kind, told_of, yard_house


def leads_out(house, room, turn):
    """Point 21 way by way, from a room at a turn."""
    if turn >= house.last:
        return False
    for name in house.doors():
        door = house.door(name)
        if door.start == room and door.lets(turn) > 0:
            if door.end is None:
                return True
            if house.holds(door.end) > 0 and leads_out(house, door.end, turn + 1):
                return True
    return leads_out(house, room, turn + 1)


class Lost(unittest.TestCase):
    def test_no_room_lost(self):
        self.assertEqual(lost(yard_house()), [])
        self.assertEqual(lost(House([], [], [], 3)), [])

    def test_a_turn_too_few(self):
        self.assertEqual(lost(yard_house(1)), ["yard"])
        self.assertEqual(lost(yard_house(1, GREAT)), ["yard"])
        self.assertEqual(lost(yard_house(2, GREAT)), [])

    def test_last_equal_to_first(self):
        self.assertEqual(lost(yard_house(0)), ["hall", "yard"])

    def test_without_doors(self):
        self.assertEqual(lost(House([("b", 2), ("a", 1)], [], [("a", 1)], 9)), ["a", "b"])

    def test_sorted_and_with_or_without_people(self):
        rooms = [("c", 1), ("a", 1), ("d", 1), ("b", 1)]
        house = House(rooms, [Door("d", "d")], [("c", 1), ("d", 1)], 9)
        self.assertEqual(lost(house), ["a", "b", "c"])

    def test_names_of_whatever_signs(self):
        house = House([("a room", 1), ("Z", 1), ("", 1), ("b", 1), ("9", 1)], [Door("d", "b")], [], 9)
        self.assertEqual(lost(house), ["", "9", "Z", "a room"])

    def test_rooms_that_hold_nobody_are_not_gone_into(self):
        doors = [Door("d", "a", "b"), Door("e", "b")]
        self.assertEqual(lost(House([("a", 1), ("b", 1)], doors, [("a", 1)], 9)), [])
        self.assertEqual(lost(House([("a", 1), ("b", 0)], doors, [("a", 1)], 9)), ["a"])

    def test_a_way_begins_and_stays_also_where_nobody_is_held(self):
        doors = [Door("d", "a", "b"), Since("e", "b", None, 1, 6)]
        self.assertEqual(lost(House([("a", 0), ("b", 1)], doors, [], 9)), [])
        self.assertEqual(lost(House([("a", 0)], [Since("d", "a", None, 1, 6)], [], 9)), [])
        self.assertEqual(lost(House([("a", 0)], [Door("e", "a", "a"), Since("d", "a", None, 1, 6)], [], 9)), [])

    def test_doors_that_let_nobody_through(self):
        doors = [Door("d", "a", None, 0), Door("e", "b", "c", 0), Door("f", "c"), Marked("g", "b", None, 1, 0)]
        self.assertEqual(lost(House([("a", 1), ("b", 1), ("c", 1)], doors, [], 9)), ["a", "b"])

    def test_doors_that_open_late(self):
        def told(since, last):
            doors = [Door("e", "b", "a"), Since("d", "a", None, 1, since)]
            return lost(House([("a", 1), ("b", 1)], doors, [], last, 3))
        self.assertEqual(told(8, 9), [])
        self.assertEqual(told(9, 9), ["a", "b"])
        self.assertEqual(told(3, 4), ["b"])

    def test_doors_that_open_and_shut_ahead_of_first(self):
        self.assertEqual(lost(House([("a", 1)], [Until("d", "a", None, 1, 5)], [], 9, 5)), ["a"])
        self.assertEqual(lost(House([("a", 1)], [Until("d", "a", None, 1, 6)], [], 9, 5)), [])

    def test_one_door_behind_the_other_takes_a_turn_each(self):
        # The exit is open at turn 2 alone: c is reached by then from b, from a only a turn later.
        doors = [Door("d", "a", "b"), Since("e", "b", "c", 1, 1), Marked("f", "c", None, 1, 0b100)]
        rooms = [("a", 1), ("b", 1), ("c", 1)]
        self.assertEqual(lost(House(rooms, doors, [], 9)), [])
        self.assertEqual(lost(House(rooms, doors, [], 9, 1)), ["a"])
        self.assertEqual(lost(House(rooms, doors, [], 9, 2)), ["a", "b"])
        self.assertEqual(lost(House(rooms, doors, [], 9, 3)), ["a", "b", "c"])

    def test_no_two_doors_at_one_turn_in_whatever_order(self):
        for names in ["abc", "cba", "bac"]:
            ends = {"a": "b", "b": "c", "c": None}
            doors = [Door(name, name, ends[name]) for name in names]
            rooms = [(name, 1) for name in names]
            self.assertEqual(lost(House(rooms, doors, [], 3)), [])
            self.assertEqual(lost(House(rooms, doors, [], 2)), ["a"])
            self.assertEqual(lost(House(rooms, doors, [], 1)), ["a", "b"])

    def test_ways_that_lead_in_a_ring(self):
        ring = [Door("d", "a", "b"), Door("e", "b", "c"), Door("f", "c", "a"), Door("g", "c", "c")]
        rooms = [("a", 1), ("b", 1), ("c", 1)]
        self.assertEqual(lost(House(rooms, ring, [("a", 1)], 20)), ["a", "b", "c"])
        self.assertEqual(lost(House(rooms, ring + [Since("h", "a", None, 1, 19)], [("b", 1)], 20)), [])
        self.assertEqual(lost(House(rooms, ring + [Beat("h", "a", None, 1, 2, 1)], [("b", 1)], 2)), ["b"])

    def test_each_kind_of_door(self):
        for first in [0, GREAT]:
            for last in range(6):
                for door, lets in each_kind("d", "a", None, first):
                    house = House([("a", 1)], [door], [], first + last, first)
                    self.assertEqual(lost(house), [] if any(lets[:last]) else ["a"])
                for door, lets in each_kind("d", "a", "b", first):
                    house = House([("a", 1), ("b", 1)], [door, Door("e", "b")], [], first + last, first)
                    self.assertEqual("a" in lost(house), not any(lets[:max(0, last - 1)]))

    def test_way_by_way(self):
        houses = [drawn_house(seed, 4, 6, 5, 3) for seed in range(60)] + drawn_houses()[:30]
        for house in houses:
            self.assertEqual(lost(house), sorted(room for room in house.rooms()
                                                 if not leads_out(house, room, house.first)))

    def test_however_many_are_in_the_way(self):
        doors = [Door("d", "a", "b"), Door("e", "b", None)]
        self.assertEqual(lost(House([("a", 5), ("b", 1)], doors, [("a", 5), ("b", 1)], 2)), [])

    def test_a_new_list_each_time(self):
        house = yard_house(0)
        before = told_of(house)
        lost(house).clear()
        self.assertEqual(lost(house), ["hall", "yard"])
        self.assertEqual(told_of(house), before)


if __name__ == "__main__":
    unittest.main()
