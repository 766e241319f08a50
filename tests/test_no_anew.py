import unittest

from firstout.anew import anew
from firstout.doors import Door
from firstout.errors import NoDoor, NoHouse, NoPlan, NoRoom, NoTurn, Twice, Unknown
from houses import plans_with_faults, refused, told_of, yard_house

NO_NUMBERS = [-1, True, False, None, "3", 1.0]
PLAN = [(5, "d", 2), (5, "e", 2)]


class NoAnewTest(unittest.TestCase):
    def refuses(self, error, happenings, name=None, plan=PLAN, turn=6):
        """Of the house of point 17 with turns 5 to 8; the house stays as it is."""
        house = yard_house(3, 5)
        before = told_of(house)
        kept = list(happenings)
        refused(self, error, lambda: anew(house, plan, turn, happenings), name)
        self.assertEqual(told_of(house), before)
        self.assertEqual(happenings, kept)


class PlanAndTurn(NoAnewTest):
    def test_a_plan_with_faults(self):
        for what, plan in plans_with_faults().items():
            with self.subTest(what):
                refused(self, NoPlan, lambda: anew(yard_house(), plan, 1))
                refused(self, NoPlan, lambda: anew(yard_house(), plan, 0, []))

    def test_a_fault_behind_the_turn(self):
        self.refuses(NoPlan, [], plan=PLAN + [(7, "d", 3)])

    def test_a_turn_that_the_house_has_not(self):
        for turn in [-1, 0, 4, 9, 100]:
            self.refuses(NoTurn, [], turn=turn)
        for turn in [5, 6, 7, 8]:
            self.assertEqual(anew(yard_house(3, 5), PLAN, turn).first, turn)

    def test_the_plan_ahead_of_the_turn_ahead_of_happenings(self):
        self.refuses(NoPlan, [("shut", "nodoor", -1)], plan=[(5, "d", 3)], turn=9)
        self.refuses(NoTurn, [("shut", "nodoor", -1)], turn=9)
        self.refuses(NoTurn, [("shut", "d", -1)], turn=4)
        self.refuses(NoTurn, [("found", "nowhere", 1)], turn=4)
        self.refuses(NoPlan, [("found", "nowhere", -1)], plan=[(4, "d", 1)])


class AHappening(NoAnewTest):
    def test_a_door_that_there_is_none(self):
        self.refuses(Unknown, [("shut", "f", 6)], "f")
        self.refuses(Unknown, [("wider", "f", 6, 1)], "f")
        self.refuses(Unknown, [("shut", "hall", 6)], "hall")

    def test_the_name_ahead_of_the_numbers(self):
        self.refuses(Unknown, [("shut", "f", -1)], "f")
        self.refuses(Unknown, [("wider", "f", -1, True)], "f")

    def test_a_turn_that_is_no_good(self):
        for turn in NO_NUMBERS:
            self.refuses(NoDoor, [("shut", "d", turn)])
            self.refuses(NoDoor, [("wider", "d", turn, 1)])

    def test_a_more_that_is_no_good(self):
        for more in NO_NUMBERS:
            self.refuses(NoDoor, [("wider", "d", 6, more)])

    def test_a_door_more_is_not_there_ahead_of_its_happening(self):
        self.refuses(Unknown, [("shut", "c", 6), ("door", Door("c", "yard"))], "c")
        self.refuses(Unknown, [("door", Door("b", "yard")), ("wider", "c", 6, 1), ("door", Door("c", "yard"))], "c")

    def test_numbers_upon_a_door_more(self):
        self.refuses(NoDoor, [("door", Door("c", "yard")), ("shut", "c", -1)])


class SeveralWrongs(NoAnewTest):
    def test_the_first_happening_that_is_no_good(self):
        self.refuses(NoDoor, [("shut", "d", -1), ("shut", "f", 6)])
        self.refuses(NoDoor, [("shut", "e", 6), ("wider", "d", 6, -1), ("shut", "f", 6)])
        self.refuses(Unknown, [("shut", "f", 6), ("shut", "d", -1)], "f")
        self.refuses(Unknown, [("wider", "g", 6, 1), ("shut", "f", 6)], "g")
        self.refuses(Unknown, [("shut", "d", 6), ("shut", "g", -1), ("shut", "d", -1)], "g")

    def test_happenings_ahead_of_the_house(self):
        self.refuses(Unknown, [("found", "nowhere", 1), ("shut", "f", 6)], "f")
        self.refuses(NoDoor, [("found", "hall", -1), ("shut", "d", -1)])
        self.refuses(Unknown, [("door", Door("d", "nowhere")), ("wider", "f", 6, 1)], "f")
        self.refuses(NoDoor, [("door", Door("d", "yard")), ("shut", "d", -1)])


class TheHouse(NoAnewTest):
    def test_a_door_of_a_name_that_is_there(self):
        self.refuses(Twice, [("door", Door("d", "yard"))], "d")
        self.refuses(Twice, [("door", Door("c", "yard")), ("door", Door("c", "hall"))], "c")
        doors = [Door("c", "yard"), Door("e", "yard"), Door("c", "hall")]
        self.refuses(Twice, [("door", door) for door in doors], "e")
        self.refuses(Twice, [("door", Door("d", "yard")), ("shut", "d", 7)], "d")

    def test_rooms_that_there_are_none(self):
        self.refuses(NoRoom, [("found", "nowhere", 1)], "nowhere")
        self.refuses(NoRoom, [("found", "nowhere", 0)], "nowhere")
        self.refuses(NoRoom, [("door", Door("c", "left", "right"))], "left")
        self.refuses(NoRoom, [("door", Door("c", "yard", "right"))], "right")
        self.refuses(NoRoom, [("found", "far", 1), ("found", "nowhere", 1)], "far")

    def test_rooms_of_doors_ahead_of_those_of_people(self):
        self.refuses(NoRoom, [("found", "nowhere", 1), ("door", Door("c", "yard", "right"))], "right")

    def test_twice_ahead_of_rooms(self):
        self.refuses(Twice, [("found", "nowhere", 1), ("door", Door("c", "left")), ("door", Door("e", "yard"))], "e")

    def test_rooms_ahead_of_numbers(self):
        self.refuses(NoRoom, [("found", "hall", -1), ("found", "nowhere", 1)], "nowhere")

    def test_more_people_than_the_room_holds(self):
        # At turn 6 three are in the hall, which holds three, and nobody in the yard, which holds nine.
        self.refuses(NoHouse, [("found", "hall", 1)])
        self.refuses(NoHouse, [("found", "yard", 10)])
        self.refuses(NoHouse, [("found", "yard", 5), ("found", "yard", 5)])
        self.assertEqual(anew(yard_house(3, 5), PLAN, 6, [("found", "yard", 9)]).found("yard"), 9)

    def test_a_number_below_0(self):
        self.refuses(NoHouse, [("found", "hall", -1)])
        self.refuses(NoHouse, [("found", "yard", -1), ("found", "yard", 2)])


if __name__ == "__main__":
    unittest.main()
