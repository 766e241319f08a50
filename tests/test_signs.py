import random
import unittest

from firstout.doors import Door
from firstout.house import House
from firstout.plans import out_by, there
from firstout.walks import signs
from houses import (GREAT, drawn_houses, drawn_plan, houses_with_plans, large_house, plans_with_faults, told_of,
                    told_otherwise, yard_house)


def fork(last=2, first=0):
    """A room with doors out, on and to itself, whose names come in no order."""
    doors = [Door("z", "a", None, 5), Door("b", "a", "c", 5), Door("m", "a", "a", 5), Door("d", "c", "a", 5)]
    return House([("c", 50), ("a", 50)], doors, [("a", 20), ("c", 4)], first + last, first)


def followed(house, plan, draw):
    """Where everybody is at each turn who follows the signs, in an order drawn; None is outside."""
    people = [room for room in house.rooms() for person in range(house.found(room))]
    places = [people]
    for turn in range(house.first, house.last):
        left = {room: [name for name, number in signs(house, plan, room, turn) for time in range(number)]
                for room in house.rooms()}
        after = list(people)
        for person in draw.sample(range(len(people)), len(people)):
            room = people[person]
            if room is not None and left[room]:
                after[person] = house.door(left[room].pop(draw.randrange(len(left[room])))).end
        people = after
        places.append(people)
    return places


class Signs(unittest.TestCase):
    def test_the_doors_from_the_room_at_the_turn_sorted(self):
        plan = [(0, "b", 3), (0, "d", 2), (0, "m", 1), (0, "z", 5), (1, "m", 4)]
        self.assertEqual(signs(fork(), plan, "a", 0), [("b", 3), ("m", 1), ("z", 5)])
        self.assertEqual(signs(fork(), plan, "c", 0), [("d", 2)])
        self.assertEqual(signs(fork(), plan, "a", 1), [("m", 4)])
        self.assertEqual(signs(fork(), plan, "c", 1), [])

    def test_of_turns_from_first_on(self):
        plan = [(GREAT, "d", 2), (GREAT + 1, "z", 3)]
        house = fork(2, GREAT)
        self.assertEqual([signs(house, plan, room, turn) for room in ["a", "c"] for turn in [GREAT, GREAT + 1]],
                         [[], [("z", 3)], [("d", 2)], []])

    def test_rows_of_0(self):
        self.assertEqual(signs(fork(), [(0, "z", 0), (0, "b", 1), (0, "b", 0), (0, "nodoor", 0)], "a", 0), [("b", 1)])
        self.assertEqual(signs(fork(), [(0, "z", 0), (0, "z", 0)], "a", 0), [])
        self.assertEqual(signs(fork(), [], "a", 0), [])

    def test_rows_told_more_than_once(self):
        plan = [(0, "z", 2), (0, "b", 1), (1, "z", 1), (0, "z", 1), (0, "b", 1)]
        self.assertEqual(signs(fork(), plan, "a", 0), [("b", 2), ("z", 3)])

    def test_plans_in_any_form(self):
        for house in drawn_houses():
            plan = drawn_plan(house, 1)
            for room, turn in house.pairs():
                self.assertEqual(signs(house, told_otherwise(plan), room, turn),
                                 sorted((name, number) for at, name, number in plan
                                        if at == turn and house.door(name).start == room))

    def test_plans_with_faults(self):
        plan = [(0, "z", 99), (0, "nodoor", 3), (7, "z", 1), (-1, "z", 1), (1, "d", 50)]
        self.assertEqual(signs(fork(), plan, "a", 0), [("z", 99)])
        self.assertEqual(signs(fork(), plan, "a", 1), [])
        self.assertEqual(signs(fork(), plan, "c", 1), [("d", 50)])
        for plan in plans_with_faults().values():
            self.assertIsInstance(signs(yard_house(), plan, "hall", 0), list)

    def test_nothing_handed_in_is_changed_and_the_list_is_new(self):
        house = fork()
        before = told_of(house)
        plan = [(0, "z", 2), (0, "b", 1), (0, "z", 1)]
        told = signs(house, plan, "a", 0)
        self.assertEqual(plan, [(0, "z", 2), (0, "b", 1), (0, "z", 1)])
        told.append(("d", 1))
        self.assertEqual(signs(house, plan, "a", 0), [("b", 1), ("z", 3)])
        told = signs(house, plan, "a", 0)
        plan.clear()
        self.assertEqual(told, [("b", 1), ("z", 3)])
        self.assertEqual(told_of(house), before)


class Followed(unittest.TestCase):
    def as_planned(self, house, plan, places):
        inside = there(house, plan)
        for turn, people in enumerate(places, start=house.first):
            for room in house.rooms():
                self.assertEqual(people.count(room), inside[(room, turn)])
            self.assertEqual(people.count(None), out_by(house, plan, turn))

    def test_in_any_order_people_come_to_be_where_the_plan_tells(self):
        draw = random.Random(7)
        for house, plan in houses_with_plans():
            if house.total() < 1000:
                self.as_planned(house, plan, followed(house, plan, draw))

    def test_in_many_orders_of_one_house(self):
        house = large_house()
        plan = drawn_plan(house, 2)
        for seed in range(10):
            self.as_planned(house, plan, followed(house, plan, random.Random(seed)))


if __name__ == "__main__":
    unittest.main()
