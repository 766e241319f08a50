import unittest

from firstout.anew import anew
from firstout.doors import Beat, Door, Shut, Wider
from firstout.errors import NoHouse, NoRoom, NoRow, NoTurn, Unknown
from firstout.first import first_out
from firstout.house import House
from firstout.kept import house_text
from houses import (GREAT, all_answers, desk_told, desk_with, houses_with_words, kept_house, large_house, refused, told_of, with_words,
                    yard_house, yard_rows)


class Changes(unittest.TestCase):
    def changes(self, desk, row, house):
        """The row is answered [], and the desk has this house then."""
        self.assertEqual(desk.say(row), [])
        self.assertEqual(desk.say("keep"), house_text(house).split("\n"))
        self.assertEqual(told_of(kept_house(desk)), told_of(house))
        self.assertEqual(desk.say("plan"), [f"{turn} {name} {number}" for turn, name, number in first_out(house)])

    def test_anew_written_out(self):
        desk = desk_told(["turns 0 2", "room hall 3", "way door d hall - 2", "people hall 3"])
        self.assertEqual(desk.say("anew 1"), [])
        self.assertEqual(desk.say("keep"), ["turns 1 2", "room hall 3", "way door d hall - 2", "people hall 1"])
        self.assertEqual(desk.say("plan"), ["1 d 1"])
        self.assertEqual(desk.say("anew 2"), [])
        self.assertEqual(desk.say("keep"), ["turns 2 2", "room hall 3", "way door d hall - 2"])
        self.assertEqual([desk.say("plan"), desk.say("walks"), desk.say("all"), desk.say("lost")], [[], [], ["2"], ["hall"]])

    def test_shut_wider_and_found_written_out(self):
        desk = desk_told(yard_rows())
        self.assertEqual(desk.say("shut d 1"), [])
        self.assertEqual(desk.say("keep")[3], "way shut 1 door d hall - 2")
        self.assertEqual([desk.say("out 1"), desk.say("out 2")], [["2"], ["2"]])
        self.assertEqual(desk.say("wider d 0 1"), [])
        self.assertEqual(desk.say("keep")[3], "way wider 0 1 shut 1 door d hall - 2")
        self.assertEqual([desk.say("out 1"), desk.say("out 2")], [["3"], ["3"]])
        self.assertEqual(desk.say("found yard 7"), [])
        self.assertEqual(desk.say("keep")[5:], ["people hall 3", "people yard 9"])
        self.assertEqual(desk.say("keep")[:3] + desk.say("keep")[4:5], yard_rows()[:3] + yard_rows()[4:5])

    def test_found_where_nobody_was(self):
        desk = desk_told(["turns 0 2", "room hall 3", "room yard 4", "people yard 1"])
        self.assertEqual(desk.say("found hall 2"), [])
        self.assertEqual(desk.say("keep")[3:], ["people hall 2", "people yard 1"])
        self.assertEqual(desk.say("found hall 1"), [])
        self.assertEqual(desk.say("found hall 0"), [])
        self.assertEqual(desk.say("keep")[3:], ["people hall 3", "people yard 1"])

    def test_anew_at_each_turn(self):
        for house in houses_with_words():
            for turn in range(house.first, house.last + 1, 3):
                self.changes(desk_with(house), f"anew {turn}", anew(house, first_out(house), turn))

    def test_each_happening(self):
        for house in houses_with_words()[::3]:
            plan = first_out(house)
            for turn in [house.first, house.first + 1, house.last, 0, 99999999999999]:
                for name in house.doors()[:3]:
                    happened = anew(house, plan, house.first, [("shut", name, turn)])
                    self.changes(desk_with(house), f"shut {name} {turn}", happened)
                    happened = anew(house, plan, house.first, [("wider", name, turn, 7)])
                    self.changes(desk_with(house), f"wider {name} {turn} 7", happened)
            for room in house.rooms():
                more = house.holds(room) - house.found(room)
                for number in [0, more]:
                    happened = anew(house, plan, house.first, [("found", room, number)])
                    self.changes(desk_with(house), f"found {room} {number}", happened)

    def test_one_behind_the_other(self):
        house = yard_house(6)
        desk = desk_with(house)
        for row, turn, happening in [("wider d 2 1", None, ("wider", "d", 2, 1)), ("anew 1", 1, None), ("shut e 3", None, ("shut", "e", 3)),
                                     ("found yard 4", None, ("found", "yard", 4)), ("anew 1", 1, None), ("anew 3", 3, None),
                                     ("shut d 5", None, ("shut", "d", 5)), ("wider e 0 0", None, ("wider", "e", 0, 0)), ("anew 6", 6, None)]:
            at = house.first if turn is None else turn
            house = anew(house, first_out(house), at, None if happening is None else [happening])
            self.changes(desk, row, house)
        self.assertIsInstance(kept_house(desk).door("e"), Wider)
        self.assertIsInstance(kept_house(desk).door("d"), Shut)

    def test_twelve_round_one_door(self):
        house = House([("a", 50)], [Beat("d", "a", None, 1, 2)], [("a", 50)], 12)
        desk = desk_with(house)
        for step in range(6):
            house = anew(house, [], 0, [("wider", "d", step, 2)])
            self.changes(desk, f"wider d {step} 2", house)
            house = anew(house, [], 0, [("shut", "d", 11 - step)])
            self.changes(desk, f"shut d {11 - step}", house)

    def test_turns_of_doors_need_not_be_turns_of_the_house(self):
        desk = desk_told(["turns 3 5"] + yard_rows()[1:])
        self.assertEqual(desk.say("shut d 0"), [])
        self.assertEqual(desk.say("wider e 99 3"), [])
        self.assertEqual(desk.say("plan"), [])
        self.assertEqual(desk.say("keep")[3:5], ["way shut 0 door d hall - 2", "way wider 99 3 door e yard hall 4"])

    def test_what_is_kept_can_be_told_again(self):
        for house in [yard_house(6, 3), with_words(large_house(GREAT))]:
            desk = desk_with(house)
            for row in [f"anew {house.first + 2}", f"shut {house.doors()[0]} {house.first + 4}", f"wider {house.doors()[1]} 0 3"]:
                desk.say(row)
                other = desk_told(desk.say("keep"))
                self.assertEqual(all_answers(other, kept_house(desk)), all_answers(desk, kept_house(desk)))

    def test_a_new_house_is_as_it_is_told_whatever_was_ahead(self):
        desk = desk_told(yard_rows())
        for row in ["shut d 1", "found yard 3", "anew 2"]:
            desk.say(row)
        self.assertEqual(desk.say("house " + "; ".join(yard_rows())), [])
        self.assertEqual(desk.say("keep"), yard_rows())


class Refused(unittest.TestCase):
    def refuses(self, desk, error, row, name=None):
        """The row is refused, and behind it the desk answers as ahead of it."""
        house = kept_house(desk)
        told = all_answers(desk, house)
        refused(self, error, lambda: desk.say(row), name)
        self.assertEqual(all_answers(desk, house), told)

    def test_anew_at_a_turn_that_the_house_has_not(self):
        desk = desk_told(["turns 3 5"] + yard_rows()[1:])
        for turn in [0, 2, 6, 99999999999999]:
            self.refuses(desk, NoTurn, f"anew {turn}")
        desk.say("anew 4")
        self.refuses(desk, NoTurn, "anew 3")
        self.refuses(desk, NoTurn, "anew 6")
        self.assertEqual(desk.say("anew 5"), [])

    def test_doors_that_there_are_none(self):
        desk = desk_told(yard_rows())
        for name in ["f", "hall", "dd", "abcdefgh", "none"]:
            self.refuses(desk, Unknown, f"shut {name} 1", name)
            self.refuses(desk, Unknown, f"wider {name} 1 2", name)
        for row in ["shut d 1", "anew 1"]:
            desk.say(row)
            self.refuses(desk, Unknown, "shut f 99", "f")
            self.refuses(desk, Unknown, "wider f 0 0", "f")

    def test_rooms_that_there_are_none(self):
        desk = desk_told(yard_rows())
        for name in ["shed", "d", "none", "abcdefgh"]:
            self.refuses(desk, NoRoom, f"found {name} 1", name)
            self.refuses(desk, NoRoom, f"found {name} 0", name)
            self.refuses(desk, NoRoom, f"found {name} 99999999999999", name)

    def test_more_found_than_a_room_holds(self):
        desk = desk_told(yard_rows())
        for row in ["found hall 1", "found yard 8", "found hall 99999999999999"]:
            self.refuses(desk, NoHouse, row)
        self.assertEqual(desk.say("found yard 7"), [])
        self.refuses(desk, NoHouse, "found yard 1")

    def test_in_a_house_without_anything(self):
        desk = desk_told(["turns 2 3"])
        self.refuses(desk, NoTurn, "anew 1")
        self.refuses(desk, Unknown, "shut d 2", "d")
        self.refuses(desk, Unknown, "wider d 2 1", "d")
        self.refuses(desk, NoRoom, "found hall 1", "hall")

    def test_a_house_refused_leaves_the_one_that_is_there(self):
        desk = desk_told(yard_rows())
        desk.say("shut d 1")
        for row in ["house turns 2 1", "house turns 0 2; room a 1; people a 2", "house", "house turns 0 2; way door d a - 1"]:
            self.refuses(desk, NoRow, row)
        self.assertEqual(desk.say("keep")[3], "way shut 1 door d hall - 2")

    def test_the_house_that_was_told_does_not_change(self):
        house = House([("a", 9)], [Door("d", "a", None, 2)], [("a", 4)], 5)
        told = told_of(house)
        anew(house, [], 0, [("shut", "d", 1), ("wider", "d", 0, 3), ("found", "a", 2)])
        desk_with(house).say("shut d 0")
        self.assertEqual(told_of(house), told)


if __name__ == "__main__":
    unittest.main()
