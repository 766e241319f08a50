import unittest

from firstout.doors import Door, Shut, Told, Wider
from firstout.errors import NoHouse, NoRoom, NoTurn, Twice
from firstout.house import House
from houses import GREAT, refused

ROOMS = [("hall", 3), ("yard", 9)]
DOORS = [Door("d", "hall", None, 2), Door("e", "yard", "hall", 4)]
PEOPLE = [("hall", 3), ("yard", 2)]

# Each wrong as what it does to good arguments, in the order in which they are told.
WRONGS = [
    (NoTurn, None, {"last": -1}),
    (Twice, "yard", {"rooms": [("yard", 9)]}),
    (Twice, "d", {"doors": [Door("d", "yard", None, 2)]}),
    (NoRoom, "attic", {"doors": [Door("z", "hall", "attic")]}),
    (NoRoom, "cellar", {"people": [("cellar", 0)]}),
    (NoHouse, None, {"people": [("yard", -1)]}),
]


def made(wrongs):
    """A house with several wrongs at once, each behind what is good."""
    rooms, doors, people, turns = list(ROOMS), list(DOORS), list(PEOPLE), {"last": 2}
    for wrong in wrongs:
        rooms += wrong.get("rooms", [])
        doors += wrong.get("doors", [])
        people += wrong.get("people", [])
        if "last" in wrong:
            turns["last"] = wrong["last"]
    return House(rooms, doors, people, turns["last"])


class Refused(unittest.TestCase):
    def refuses(self, error, rooms, doors, people, name=None, last=2, first=0):
        refused(self, error, lambda: House(rooms, doors, people, last, first), name)

    def test_the_good_one_is_made(self):
        self.assertEqual(made([]).total(), 5)

    def test_turns(self):
        for last, first in [(-1, 0), (0, -1), (2, -1), (-1, -1), (-1, -2), (4, 5), (0, 1), (GREAT - 1, GREAT), (5, -GREAT)]:
            self.refuses(NoTurn, ROOMS, DOORS, PEOPLE, last=last, first=first)
        refused(self, NoTurn, lambda: House(ROOMS, DOORS, PEOPLE, -1))
        for last, first in [(0, 0), (5, 5), (6, 5), (GREAT, GREAT)]:
            self.assertEqual(House(ROOMS, DOORS, PEOPLE, last, first).last, last)

    def test_a_room_twice(self):
        self.refuses(Twice, [("hall", 3), ("hall", 3)], [], [], "hall")
        self.refuses(Twice, [("hall", 3), ("hall", 4)], [], [], "hall")
        self.refuses(Twice, [("", 3), ("", 4)], [], [], "")

    def test_the_first_room_that_one_ahead_of_it_is_called_like(self):
        self.refuses(Twice, [(name, 1) for name in ["a", "b", "c", "b", "a"]], [], [], "b")
        self.refuses(Twice, [(name, 1) for name in ["c", "a", "a", "c", "b"]], [], [], "a")
        self.refuses(Twice, [(name, 1) for name in ["a", "b", "b", "b", "a"]], [], [], "b")

    def test_a_door_twice(self):
        self.refuses(Twice, ROOMS, [Door("d", "hall"), Door("d", "yard")], [], "d")
        self.refuses(Twice, ROOMS, [DOORS[0], DOORS[0]], [], "d")
        self.refuses(Twice, ROOMS, [DOORS[0], Shut(DOORS[0], 1)], [], "d")

    def test_the_first_door_that_one_ahead_of_it_is_called_like(self):
        self.refuses(Twice, ROOMS, [Door(name, "hall") for name in ["a", "b", "c", "b", "a"]], [], "b")
        self.refuses(Twice, ROOMS, [Door(name, "hall") for name in ["c", "a", "a", "c", "b"]], [], "a")

    def test_a_door_may_be_called_like_a_room(self):
        self.assertEqual(House(ROOMS, [Door("hall", "yard"), Door("yard", "hall")], [], 1).doors(), ["hall", "yard"])

    def test_a_room_that_there_is_none_of_the_doors(self):
        self.refuses(NoRoom, ROOMS, [Door("f", "attic")], [], "attic")
        self.refuses(NoRoom, ROOMS, [Door("f", "hall", "attic")], [], "attic")
        self.refuses(NoRoom, ROOMS, [Door("f", "attic", "hall")], [], "attic")
        self.refuses(NoRoom, [], [Door("f", "hall")], [], "hall")
        # A door's name is no room's.
        self.refuses(NoRoom, ROOMS, [Door("f", "hall", "f")], [], "f")

    def test_start_ahead_of_end_and_door_by_door(self):
        self.refuses(NoRoom, ROOMS, [Door("f", "two", "one")], [], "two")
        self.refuses(NoRoom, ROOMS, [Door("f", "hall", "two"), Door("g", "one", "hall")], [], "two")
        self.refuses(NoRoom, ROOMS, [Door("f", "hall"), Door("g", "yard", "two"), Door("h", "one")], [], "two")

    def test_of_each_kind_of_door(self):
        self.refuses(NoRoom, ROOMS, [Told("f", "attic", None, lambda turn: 0)], [], "attic")
        self.refuses(NoRoom, ROOMS, [Wider(Shut(Door("f", "hall", "attic"), 0), 1, 1)], [], "attic")

    def test_a_room_that_there_is_none_of_the_people(self):
        self.refuses(NoRoom, ROOMS, DOORS, [("attic", 1)], "attic")
        self.refuses(NoRoom, ROOMS, DOORS, [("attic", 0)], "attic")
        self.refuses(NoRoom, ROOMS, DOORS, [("hall", 1), ("two", 1), ("one", 1)], "two")
        self.refuses(NoRoom, ROOMS, DOORS, [("", 1)], "")
        self.refuses(NoRoom, ROOMS, DOORS, [("d", 1)], "d")

    def test_the_doors_ahead_of_the_people(self):
        self.refuses(NoRoom, ROOMS, DOORS + [Door("f", "hall", "two")], [("one", 1)], "two")

    def test_a_room_that_holds_less_than_0(self):
        for size in [-1, -GREAT]:
            self.refuses(NoHouse, [("hall", size)], [], [])
            self.refuses(NoHouse, [("yard", 9), ("hall", size), ("attic", 2)], [], [("yard", 1)])

    def test_a_row_of_people_below_0(self):
        for number in [-1, -GREAT]:
            self.refuses(NoHouse, ROOMS, DOORS, [("hall", number)])
        # Though all rows of the room add up to some that it holds.
        self.refuses(NoHouse, ROOMS, DOORS, [("hall", 3), ("hall", -1)])
        self.refuses(NoHouse, ROOMS, DOORS, [("hall", -1), ("yard", 1), ("hall", 1)])

    def test_more_in_a_room_than_it_holds(self):
        self.refuses(NoHouse, ROOMS, DOORS, [("hall", 4)])
        self.refuses(NoHouse, ROOMS, DOORS, [("hall", 2), ("yard", 1), ("hall", 2)])
        self.refuses(NoHouse, ROOMS, DOORS, [("hall", 3), ("yard", 10)])
        self.refuses(NoHouse, [("hall", 0)], [], [("hall", 1)])
        self.assertEqual(House(ROOMS, DOORS, [("hall", 3), ("yard", 9)], 1).total(), 12)

    def test_several_wrongs_at_once(self):
        for at, (error, name, wrong) in enumerate(WRONGS):
            refused(self, error, lambda: made([wrong]), name)
            for more in range(1 << (len(WRONGS) - at - 1)):
                later = [row[2] for bit, row in enumerate(WRONGS[at + 1:]) if more >> bit & 1]
                refused(self, error, lambda: made([wrong] + later), name)

    def test_twice_stands_ahead_of_a_room_that_there_is_none(self):
        self.refuses(Twice, ROOMS, [Door("f", "attic"), Door("f", "hall")], [("cellar", -1)], "f")
        self.refuses(Twice, [("hall", -1), ("hall", -1)], [Door("f", "attic"), Door("f", "hall")], [], "hall")


if __name__ == "__main__":
    unittest.main()
