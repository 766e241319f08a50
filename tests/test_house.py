import unittest

from firstout.doors import Door, Told
from firstout.errors import NoRoom, Unknown
from firstout.house import House
from houses import GREAT, each_kind, hall_house, large_house, refused, yard_house


def all_told(house):
    """All that a house tells of itself."""
    rooms = [(room, house.holds(room), house.found(room), house.into(room), house.from_room(room))
             for room in house.rooms()]
    turns = range(house.first - 2, house.last + 3)
    doors = [(name, house.door(name), [house.lets(name, turn) for turn in turns]) for name in house.doors()]
    return house.first, house.last, rooms, doors, house.total(), house.pairs()


class Sizes(unittest.TestCase):
    def test_without_rooms(self):
        house = House([], [], [], 2)
        self.assertEqual((house.rooms(), house.doors(), house.total(), house.pairs()), ([], [], 0, []))

    def test_without_doors(self):
        house = House([("hall", 3)], [], [("hall", 3)], 1)
        self.assertEqual((house.doors(), house.into("hall"), house.from_room("hall")), ([], [], []))
        self.assertEqual(house.total(), 3)

    def test_without_people(self):
        house = House([("hall", 3), ("yard", 0)], [Door("d", "hall")], [], 1)
        self.assertEqual((house.found("hall"), house.found("yard"), house.total()), (0, 0, 0))

    def test_of_one_room(self):
        house = hall_house()
        self.assertEqual((house.rooms(), house.doors()), (["hall"], ["d"]))
        self.assertEqual((house.holds("hall"), house.found("hall"), house.total()), (3, 3, 3))
        self.assertEqual((house.into("hall"), house.from_room("hall")), ([], ["d"]))

    def test_of_eight_rooms_and_sixteen_doors(self):
        house = large_house()
        self.assertEqual((len(house.rooms()), len(house.doors())), (8, 16))
        self.assertEqual((house.first, house.last, len(house.pairs())), (0, 20, 168))
        self.assertEqual(house.total(), 72)
        self.assertEqual(house.into("bb"), ["onaa", "backcc"])
        self.assertEqual(house.from_room("bb"), ["onbb", "backbb", "hop"])

    def test_a_room_that_holds_none(self):
        house = House([("hall", 0)], [], [("hall", 0)], 0)
        self.assertEqual((house.holds("hall"), house.found("hall")), (0, 0))

    def test_numbers_of_fourteen_figures(self):
        most = 10 ** 14 - 1
        house = House([("hall", most), ("yard", most)], [Door("d", "hall", None, most)],
                      [("hall", most - 1), ("hall", 1), ("yard", most)], 1)
        self.assertEqual((house.holds("hall"), house.found("hall"), house.lets("d", 0)), (most, most, most))
        self.assertEqual(house.total(), 2 * most)


class Turns(unittest.TestCase):
    def test_first_left_out(self):
        house = House([], [], [], 5)
        self.assertEqual((house.first, house.last), (0, 5))

    def test_first_told(self):
        house = House([], [], [], 5, 3)
        self.assertEqual((house.first, house.last), (3, 5))

    def test_the_arguments_have_their_names(self):
        house = House(first=1, last=2, people=[("hall", 2)], doors=[Door("d", "hall")], rooms=[("hall", 3)])
        self.assertEqual((house.first, house.last, house.total(), house.doors()), (1, 2, 2, ["d"]))

    def test_last_equal_to_first(self):
        for first in [0, 4, GREAT]:
            house = House([("hall", 3)], [Door("d", "hall", None, 2)], [("hall", 1)], first, first)
            self.assertEqual((house.first, house.last), (first, first))
            self.assertEqual(house.pairs(), [("hall", first)])
            self.assertEqual([house.lets("d", first + more) for more in [-1, 0, 1]], [0, 0, 0])

    def test_last_twenty_behind_first(self):
        for first in [0, 7, GREAT]:
            house = large_house(first)
            self.assertEqual((house.first, house.last), (first, first + 20))
            self.assertEqual(len(house.pairs()), 168)
            self.assertEqual(house.pairs()[0], ("aa", first))
            self.assertEqual(house.pairs()[-1], ("hh", first + 20))

    def test_pairs_by_turn_and_then_as_the_rooms_were_handed_in(self):
        house = House([("yard", 1), ("hall", 1), ("attic", 1)], [], [], 5, 3)
        self.assertEqual(house.pairs(), [("yard", 3), ("hall", 3), ("attic", 3), ("yard", 4), ("hall", 4), ("attic", 4),
                                         ("yard", 5), ("hall", 5), ("attic", 5)])


class AsHandedIn(unittest.TestCase):
    def test_rooms_and_doors_in_the_order_handed_in(self):
        doors = [Door("z", "m", "b"), Door("a", "b", "m"), Door("m", "z"), Door("b", "m", "b"), Door("c", "m")]
        house = House([("z", 1), ("b", 2), ("m", 3)], doors, [], 1)
        self.assertEqual(house.rooms(), ["z", "b", "m"])
        self.assertEqual(house.doors(), ["z", "a", "m", "b", "c"])
        self.assertEqual([house.into(room) for room in ["z", "b", "m"]], [[], ["z", "b"], ["a"]])
        self.assertEqual([house.from_room(room) for room in ["z", "b", "m"]], [["m"], ["a"], ["z", "b", "c"]])
        self.assertEqual([house.holds(room) for room in ["z", "b", "m"]], [1, 2, 3])

    def test_a_door_from_a_room_to_itself_is_in_both(self):
        house = House([("hall", 1), ("yard", 1)], [Door("d", "hall", "hall"), Door("e", "hall", "yard")], [], 1)
        self.assertEqual((house.into("hall"), house.from_room("hall")), (["d"], ["d", "e"]))
        self.assertEqual((house.into("yard"), house.from_room("yard")), (["e"], []))

    def test_a_door_that_leads_out_is_in_no_rooms_into(self):
        house = yard_house()
        self.assertEqual((house.into("hall"), house.from_room("hall")), (["e"], ["d"]))
        self.assertEqual((house.into("yard"), house.from_room("yard")), ([], ["e"]))

    def test_doors_called_as_rooms_are(self):
        house = House([("a", 1), ("b", 2)], [Door("b", "a", "b", 3), Door("a", "b", None, 4)], [("b", 1)], 1)
        self.assertEqual((house.rooms(), house.doors()), (["a", "b"], ["b", "a"]))
        self.assertEqual((house.holds("a"), house.holds("b"), house.found("a"), house.found("b")), (1, 2, 0, 1))
        self.assertEqual((house.door("a").start, house.door("b").start), ("b", "a"))
        self.assertEqual((house.lets("a", 0), house.lets("b", 0)), (4, 3))
        self.assertEqual((house.into("b"), house.from_room("b")), (["b"], ["a"]))

    def test_a_rooms_name_may_be_any_text(self):
        names = ["", " ", "Hall", "a b", "abcdefghi", "7", "-", "None", "~;\t\n"]
        house = House([(name, at) for at, name in enumerate(names)], [], [(names[3], 2), (names[8], 8)], 0)
        self.assertEqual(house.rooms(), names)
        self.assertEqual([house.holds(name) for name in names], list(range(9)))
        self.assertEqual([house.found(name) for name in names], [0, 0, 0, 2, 0, 0, 0, 0, 8])
        self.assertEqual([house.into(name) + house.from_room(name) for name in names], [[]] * 9)
        self.assertEqual(house.pairs(), [(name, 0) for name in names])

    def test_rows_of_people_of_one_room_add_up(self):
        house = House([("hall", 9), ("yard", 5)], [],
                      [("hall", 2), ("yard", 1), ("hall", 0), ("hall", 3), ("yard", 4), ("hall", 4)], 1)
        self.assertEqual((house.found("hall"), house.found("yard"), house.total()), (9, 5, 14))

    def test_the_door_of_a_name(self):
        for door, lets in each_kind("d", "hall", None):
            other = Door("e", "hall")
            house = House([("hall", 1)], [other, door], [], 4)
            self.assertIs(house.door("d"), door)
            self.assertIs(house.door("e"), other)


class Lets(unittest.TestCase):
    def test_of_each_kind_from_first_to_last(self):
        for first in [0, GREAT]:
            for end in [None, "hall", "yard"]:
                for door, lets in each_kind("d", "hall", end, first):
                    house = House([("hall", 1), ("yard", 1)], [door], [], first + 4, first)
                    told = [house.lets("d", first + more) for more in range(6)]
                    self.assertEqual(told, lets[:4] + [0, 0], door)

    def test_ahead_of_first_and_from_last_on(self):
        house = House([("hall", 1)], [Door("d", "hall", None, 3)], [], 5, 3)
        self.assertEqual([house.lets("d", turn) for turn in [-1, 0, 1, 2, 3, 4, 5, 6, 7, GREAT]],
                         [0, 0, 0, 0, 3, 3, 0, 0, 0, 0])

    def test_turns_are_those_of_the_house_not_counted_from_first(self):
        house = House([("hall", 1)], [Told("d", "hall", None, lambda turn: turn * 10)], [], 8, 5)
        self.assertEqual([house.lets("d", turn) for turn in range(4, 9)], [0, 50, 60, 70, 0])


class NoSuchName(unittest.TestCase):
    def test_of_a_room(self):
        house = yard_house()
        before = all_told(house)
        for name in ["d", "e", "attic", "", "Hall", "hall ", "hal", "halls"]:
            for ask in [house.holds, house.found, house.into, house.from_room]:
                refused(self, NoRoom, lambda: ask(name), name)
        self.assertEqual(all_told(house), before)

    def test_of_a_door(self):
        house = yard_house(2, 4)
        before = all_told(house)
        for name in ["hall", "yard", "f", "", "D", "d ", "dd"]:
            refused(self, Unknown, lambda: house.door(name), name)
            for turn in [-1, 0, 3, 4, 5, 6, 7, GREAT]:
                refused(self, Unknown, lambda: house.lets(name, turn), name)
        self.assertEqual(all_told(house), before)

    def test_in_a_house_without_any(self):
        house = House([], [], [], 0)
        for ask in [house.holds, house.found, house.into, house.from_room]:
            refused(self, NoRoom, lambda: ask("hall"), "hall")
        refused(self, Unknown, lambda: house.door("d"), "d")
        refused(self, Unknown, lambda: house.lets("d", 0), "d")


class NeverChanges(unittest.TestCase):
    def test_by_lists_handed_in_and_changed_behind_the_call(self):
        rooms = [("hall", 3), ("yard", 9)]
        doors = [Door("d", "hall", None, 2), Door("e", "yard", "hall", 4)]
        people = [("hall", 1), ("hall", 2), ("yard", 2)]
        house = House(rooms, doors, people, 2)
        before = all_told(house)
        rooms[0] = ("attic", 7)
        rooms.append(("cellar", 5))
        doors.pop()
        doors.append(Door("f", "hall"))
        people.clear()
        self.assertEqual(all_told(house), before)
        self.assertEqual((house.rooms(), house.doors(), house.total()), (["hall", "yard"], ["d", "e"], 5))

    def test_nor_are_the_lists_handed_in_changed(self):
        rooms = [("yard", 9), ("hall", 3)]
        doors = [Door("e", "yard", "hall", 4), Door("d", "hall", None, 2)]
        people = [("yard", 2), ("hall", 1), ("hall", 2)]
        copies = list(rooms), list(doors), list(people)
        all_told(House(rooms, doors, people, 2))
        self.assertEqual((rooms, doors, people), copies)

    def test_by_lists_told_and_changed_by_the_asker(self):
        house = yard_house()
        before = all_told(house)
        for ask in [house.rooms, house.doors, house.pairs, lambda: house.into("hall"), lambda: house.from_room("hall")]:
            told = ask()
            self.assertIsNot(told, ask())
            kept = ask()
            told.reverse()
            told.append("attic")
            told[0] = "cellar"
            self.assertEqual(ask(), kept)
            told.clear()
            self.assertEqual(ask(), kept)
        self.assertEqual(all_told(house), before)

    def test_asked_again_it_tells_the_same(self):
        for house in [hall_house(), yard_house(3, 5), large_house()]:
            self.assertEqual(all_told(house), all_told(house))

    def test_two_houses_of_one_list_know_nothing_of_one_another(self):
        rooms = [("hall", 3)]
        doors = [Door("d", "hall", None, 2)]
        one = House(rooms, doors, [("hall", 3)], 2)
        before = all_told(one)
        rooms.append(("yard", 1))
        other = House(rooms, doors, [("yard", 1)], 4, 3)
        self.assertEqual(all_told(one), before)
        self.assertEqual((other.rooms(), other.total(), other.first, other.last), (["hall", "yard"], 1, 3, 4))


if __name__ == "__main__":
    unittest.main()
