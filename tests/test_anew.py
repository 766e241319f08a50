import unittest

from firstout.anew import anew
from firstout.doors import Beat, Door, Shut, Told, Wider
from firstout.first import first_out
from firstout.house import House
from firstout.plans import there
from houses import GREAT, drawn_houses, drawn_plan, each_kind, large_house, told_of, told_otherwise, yard_house

PLAN = [(0, "d", 2), (0, "e", 2), (1, "d", 2)]


def lets_of(house, name):
    """What a door of the house lets at the turns 0 to 5, whatever turns the house has."""
    return [house.door(name).lets(turn) for turn in range(6)]


class TheHouseFromATurnOn(unittest.TestCase):
    def test_people_are_where_the_plan_has_them(self):
        house = yard_house(3)
        found = []
        for turn in range(4):
            later = anew(house, PLAN, turn)
            self.assertIsInstance(later, House)
            self.assertEqual((later.first, later.last), (turn, 3))
            found.append((later.found("hall"), later.found("yard"), later.total()))
        self.assertEqual(found, [(3, 2, 5), (3, 0, 3), (1, 0, 1), (1, 0, 1)])

    def test_rooms_and_doors_are_the_same_in_the_same_order(self):
        for house in drawn_houses():
            plan = drawn_plan(house, 1)
            for turn in [house.first, house.first + 1, house.last - 1, house.last]:
                later = anew(house, plan, turn)
                self.assertEqual(later.rooms(), house.rooms())
                self.assertEqual(later.doors(), house.doors())
                for room in house.rooms():
                    self.assertEqual(later.holds(room), house.holds(room))
                    self.assertEqual(later.found(room), there(house, plan)[(room, turn)])
                for name in house.doors():
                    self.assertIs(later.door(name), house.door(name))

    def test_happenings_none_left_out_or_empty(self):
        house = yard_house(3)
        told = told_of(anew(house, PLAN, 1))
        self.assertEqual(told_of(anew(house, PLAN, 1, None)), told)
        self.assertEqual(told_of(anew(house, PLAN, 1, [])), told)
        self.assertEqual(told_of(anew(house, PLAN, 1, happenings=None)), told)

    def test_at_first_it_is_the_house_whatever_the_plan(self):
        for house in drawn_houses() + [yard_house(3, GREAT)]:
            self.assertEqual(told_of(anew(house, [], house.first)), told_of(house))
            self.assertEqual(told_of(anew(house, first_out(house), house.first)), told_of(house))

    def test_at_last_nobody_goes_any_more(self):
        later = anew(yard_house(), PLAN, 2)
        self.assertEqual((later.first, later.last, later.found("hall")), (2, 2, 1))
        self.assertEqual(first_out(later), [])
        self.assertEqual(later.lets("d", 2), 0)

    def test_plans_in_any_form(self):
        for house in drawn_houses():
            plan = drawn_plan(house, 1)
            turn = house.first + 3
            self.assertEqual(told_of(anew(house, told_otherwise(plan), turn)), told_of(anew(house, plan, turn)))

    def test_of_a_house_without_rooms(self):
        self.assertEqual(told_of(anew(House([], [], [], 4), [], 3)), told_of(House([], [], [], 4, 3)))

    def test_again_and_again(self):
        house = large_house(5)
        plan = first_out(house)
        step = house
        for turn in range(5, 26):
            step = anew(step, [row for row in plan if row[0] >= step.first], turn)
            self.assertEqual(told_of(step), told_of(anew(house, plan, turn)))


class Happenings(unittest.TestCase):
    def test_shut(self):
        later = anew(yard_house(5), PLAN, 1, [("shut", "d", 3)])
        self.assertEqual(later.doors(), ["d", "e"])
        self.assertIsInstance(later.door("d"), Shut)
        self.assertEqual(later.door("d").words(), "shut 3 door d hall - 2")
        self.assertEqual(lets_of(later, "d"), [2, 2, 2, 0, 0, 0])
        self.assertEqual(later.door("e").words(), "door e yard hall 4")

    def test_shut_at_whatever_turn(self):
        for turn, lets in [(0, 0), (1, 0), (2, 2), (9, 2), (GREAT, 2)]:
            self.assertEqual(anew(yard_house(5), PLAN, 1, [("shut", "d", turn)]).lets("d", 1), lets)

    def test_wider(self):
        later = anew(yard_house(5), PLAN, 1, [("wider", "e", 2, 7)])
        self.assertEqual(later.doors(), ["d", "e"])
        self.assertIsInstance(later.door("e"), Wider)
        self.assertEqual(later.door("e").words(), "wider 2 7 door e yard hall 4")
        self.assertEqual(lets_of(later, "e"), [4, 4, 11, 11, 11, 11])
        self.assertEqual(lets_of(anew(yard_house(5), PLAN, 1, [("wider", "e", 0, 0)]), "e"), [4] * 6)

    def test_found(self):
        house = yard_house(5)
        later = anew(house, PLAN, 2, [("found", "hall", 2)])
        self.assertEqual((later.found("hall"), later.found("yard")), (3, 0))
        later = anew(house, PLAN, 2, [("found", "yard", 4), ("found", "hall", 1), ("found", "yard", 5)])
        self.assertEqual((later.found("hall"), later.found("yard")), (2, 9))
        self.assertEqual(told_of(anew(house, PLAN, 2, [("found", "yard", 0)])), told_of(anew(house, PLAN, 2)))

    def test_a_door_more(self):
        door = Door("c", "yard", None, 3)
        later = anew(yard_house(5), PLAN, 1, [("door", door)])
        self.assertEqual(later.doors(), ["d", "e", "c"])
        self.assertIs(later.door("c"), door)
        later = anew(yard_house(5), PLAN, 1, [("door", door), ("door", Beat("b", "hall", "hall", 1, 2))])
        self.assertEqual(later.doors(), ["d", "e", "c", "b"])
        self.assertEqual(later.into("hall"), ["e", "b"])

    def test_each_kind_of_door_more_shut_and_wider(self):
        for door, lets in each_kind("c", "yard", None):
            house = anew(yard_house(5), [], 0, [("door", door), ("wider", "c", 2, 3), ("shut", "c", 4)])
            wider = [number + 3 if number > 0 else 0 for number in lets[2:4]]
            self.assertEqual([house.lets("c", turn) for turn in range(5)], lets[:2] + wider + [0])

    def test_a_door_more_in_a_house_without_doors(self):
        house = House([("a", 2)], [], [("a", 2)], 3)
        later = anew(house, [], 1, [("door", Door("d", "a", None, 1))])
        self.assertEqual(first_out(later), [(1, "d", 1), (2, "d", 1)])

    def test_several_upon_one_door_one_behind_the_other(self):
        def words(happenings):
            return anew(yard_house(5), PLAN, 1, happenings).door("d").words()
        self.assertEqual(words([("shut", "d", 4), ("wider", "d", 2, 5)]), "wider 2 5 shut 4 door d hall - 2")
        self.assertEqual(words([("wider", "d", 2, 5), ("shut", "d", 4)]), "shut 4 wider 2 5 door d hall - 2")
        self.assertEqual(words([("shut", "d", 4), ("found", "yard", 1), ("shut", "d", 2), ("shut", "d", 3)]),
                         "shut 3 shut 2 shut 4 door d hall - 2")

    def test_upon_a_door_more_behind_that(self):
        happenings = [("door", Door("c", "yard", None, 3)), ("shut", "c", 4), ("door", Door("b", "yard")),
                      ("wider", "c", 3, 1), ("wider", "b", 0, 9)]
        later = anew(yard_house(5), PLAN, 1, happenings)
        self.assertEqual(later.doors(), ["d", "e", "c", "b"])
        self.assertEqual(later.door("c").words(), "wider 3 1 shut 4 door c yard - 3")
        self.assertEqual(later.door("b").words(), "wider 0 9 door b yard - 1")

    def test_twelve_of_all_sorts(self):
        each = [("wider", "d", 2, 1), ("shut", "e", 4), ("found", "yard", 3)]
        doors = [("door", Told(name, "yard", None, lambda turn: turn)) for name in ["t", "u"]]
        happenings = each + doors[:1] + each + doors[1:] + each + [("shut", "t", 3)]
        later = anew(yard_house(5), PLAN, 2, happenings)
        self.assertEqual(later.doors(), ["d", "e", "t", "u"])
        self.assertEqual(lets_of(later, "d"), [2, 2, 5, 5, 5, 5])
        self.assertEqual([later.lets("t", turn) for turn in range(2, 5)], [2, 0, 0])
        self.assertEqual(later.found("yard"), 9)

    def test_upon_a_door_round_which_there_are_others(self):
        door = Door("d", "hall", None, 2)
        for more in range(12):
            door = Wider(door, 0, 1)
        house = House([("hall", 3)], [door], [("hall", 3)], 5)
        self.assertEqual(anew(house, [], 2, [("wider", "d", 4, 10)]).door("d").lets(4), 24)

    def test_a_room_and_a_door_of_one_name(self):
        house = House([("a", 2), ("b", 2)], [Door("b", "a"), Door("a", "b")], [("a", 1)], 3)
        later = anew(house, [], 1, [("shut", "a", 2), ("found", "a", 1), ("wider", "b", 0, 1)])
        self.assertEqual([later.door(name).words() for name in later.doors()],
                         ["wider 0 1 door b a - 1", "shut 2 door a b - 1"])
        self.assertEqual((later.found("a"), later.found("b")), (2, 0))


class NothingChanges(unittest.TestCase):
    def test_what_is_handed_in(self):
        house = yard_house(5)
        before = told_of(house)
        plan = [(1, "d", 2), (0, "e", 2), (0, "d", 2)]
        happenings = [("shut", "d", 3), ("wider", "e", 2, 7), ("found", "hall", 2), ("door", Door("c", "yard"))]
        kept = list(happenings)
        later = anew(house, plan, 2, happenings)
        self.assertEqual(told_of(house), before)
        self.assertEqual(house.door("d").words(), "door d hall - 2")
        self.assertEqual(plan, [(1, "d", 2), (0, "e", 2), (0, "d", 2)])
        self.assertEqual(happenings, kept)
        told = told_of(later)
        plan.clear()
        happenings.clear()
        self.assertEqual(told_of(later), told)
        self.assertEqual(told_of(anew(house, PLAN, 2, kept)), told)


if __name__ == "__main__":
    unittest.main()
