import unittest

from firstout.doors import Door, Told
from firstout.errors import NoPlan
from firstout.first import first_out
from firstout.house import House
from firstout.walks import joined, walks
from houses import (GREAT, drawn_houses, drawn_plan, each_kind, hall_house, houses_with_plans, is_lawful, large_house,
                    plans_with_faults, refused, told_of, told_otherwise, yard_house)


def added(numbers):
    """A dict by the keys of tuples (key, number), without those of 0."""
    sums = {}
    for key, number in numbers:
        sums[key] = sums.get(key, 0) + number
    return {key: number for key, number in sums.items() if number != 0}


class WalksTest(unittest.TestCase):
    def is_walk(self, house, walk):
        self.assertIsInstance(walk, tuple)
        number, place, steps = walk
        self.assertGreaterEqual(number, 1)
        self.assertIsInstance(steps, list)
        for step in steps:
            self.assertIsNotNone(place, walk)
            if step is not None:
                self.assertEqual(house.door(step).start, place, walk)
                place = house.door(step).end
        if place is not None:
            self.assertEqual(len(steps), house.last - house.first, walk)
        self.assertLessEqual(len(steps), house.last - house.first)

    def deals_out(self, house, plan, told):
        self.assertIsInstance(told, list)
        for walk in told:
            self.is_walk(house, walk)
        self.assertEqual(added([(room, number) for number, room, steps in told]),
                         added([(room, house.found(room)) for room in house.rooms()]))
        gone = [((turn, step), number) for number, room, steps in told
                for turn, step in enumerate(steps, start=house.first) if step is not None]
        going = added([((turn, name), number) for turn, name, number in plan])
        self.assertEqual(added(gone), going)
        with_people = [room for room in house.rooms() if house.found(room) > 0]
        self.assertLessEqual(len(told), len(with_people) + len(going))


class Walks(WalksTest):
    def test_of_lawful_plans(self):
        for house, plan in houses_with_plans():
            self.assertTrue(house.total() > 1000 or is_lawful(house, plan))
            self.deals_out(house, plan, walks(house, plan))

    def test_the_house_of_the_document(self):
        self.assertEqual(sorted(walks(hall_house(), [(0, "d", 2), (1, "d", 1)])),
                         [(1, "hall", [None, "d"]), (2, "hall", ["d"])])
        self.assertEqual(walks(hall_house(5), []), [(3, "hall", [None, None])])

    def test_who_never_moves(self):
        self.assertEqual(walks(yard_house(), []), [(3, "hall", [None, None]), (2, "yard", [None, None])])
        self.assertEqual(walks(yard_house(0), []), [(3, "hall", []), (2, "yard", [])])

    def test_without_rooms_doors_or_people(self):
        self.assertEqual(walks(House([], [], [], 3), []), [])
        self.assertEqual(walks(House([("a", 3)], [Door("d", "a")], [("a", 0)], 3), []), [])
        self.assertEqual(walks(House([("a", 3)], [], [("a", 2)], 1), []), [(2, "a", [None])])

    def test_doors_from_a_room_to_itself(self):
        house = House([("a", 3)], [Door("d", "a", "a", 2), Door("e", "a", None, 1)], [("a", 3)], 2)
        for plan in [[(0, "d", 2), (1, "d", 2)], [(0, "d", 2), (0, "e", 1), (1, "d", 1), (1, "e", 1)]]:
            self.deals_out(house, plan, walks(house, plan))

    def test_two_who_change_places(self):
        house = House([("a", 1), ("b", 1)], [Door("d", "a", "b"), Door("e", "b", "a")], [("a", 1), ("b", 1)], 1)
        plan = [(0, "d", 1), (0, "e", 1)]
        self.assertEqual(sorted(walks(house, plan)), [(1, "a", ["d"]), (1, "b", ["e"])])

    def test_nobody_goes_through_two_doors_at_one_turn(self):
        for names in [["a", "b", "c"], ["c", "b", "a"]]:
            doors = [Door("d", "a", "b"), Door("e", "b", "c"), Door("f", "c")]
            house = House([(name, 1) for name in names], doors, [(name, 1) for name in names], 3)
            plan = first_out(house)
            self.deals_out(house, plan, walks(house, plan))
            self.assertIn((1, "a", ["d", "e", "f"]), walks(house, plan))

    def test_who_goes_together_is_told_together(self):
        doors = [Door("d", "a", "b", GREAT), Door("e", "b", None, GREAT)]
        house = House([("a", GREAT), ("b", GREAT)], doors, [("a", GREAT)], 4)
        self.assertEqual(walks(house, first_out(house)), [(GREAT, "a", ["d", "e"])])

    def test_each_kind_of_door(self):
        for first in [0, GREAT]:
            for door, lets in each_kind("d", "a", "b", first):
                house = House([("a", 7), ("b", 9)], [Door("e", "b", None, 9), door], [("a", 7)], first + 5, first)
                self.deals_out(house, first_out(house), walks(house, first_out(house)))

    def test_no_more_walks_than_rooms_with_people_and_rows(self):
        # Each room but the last hands people on at each turn, so that walks are parted again and again.
        names = "abcdefgh"
        doors = [Door(start, start, end, 2 + at % 2) for at, (start, end) in enumerate(zip(names, names[1:]))]
        house = House([(name, 99) for name in names], doors + [Door("out", "h", None, 1)],
                      [(name, 9) for name in names], 20)
        plan = drawn_plan(house, 1)
        self.assertGreater(len(plan), 100)
        self.deals_out(house, plan, walks(house, plan))


class PlansInAnyForm(WalksTest):
    def test_are_dealt_out_alike(self):
        for house in drawn_houses():
            plan = first_out(house)
            self.assertEqual(walks(house, told_otherwise(plan)), walks(house, plan))
            self.assertEqual(walks(house, list(reversed(plan))), walks(house, plan))

    def test_rows_of_0(self):
        plan = [(1, "d", 0), (0, "e", 0), (0, "d", 2), (0, "nodoor", 0), (9, "d", 0), (-1, "e", 0)]
        self.assertEqual(walks(yard_house(), plan), walks(yard_house(), [(0, "d", 2)]))

    def test_rows_that_add_up(self):
        plan = [(0, "e", 1), (0, "d", 1), (0, "e", 1), (1, "d", 0), (0, "d", 1)]
        self.deals_out(yard_house(), plan, walks(yard_house(), plan))
        self.assertEqual(walks(yard_house(), plan), walks(yard_house(), [(0, "d", 2), (0, "e", 2)]))


class Refused(unittest.TestCase):
    def test_each_kind_of_fault(self):
        for what, plan in plans_with_faults().items():
            with self.subTest(what):
                refused(self, NoPlan, lambda: walks(yard_house(), plan))

    def test_a_fault_among_many_good_rows(self):
        house = large_house()
        refused(self, NoPlan, lambda: walks(house, first_out(house) + [(20, "left", 1)]))

    def test_at_the_edge_none(self):
        for plan in [[(0, "d", 2), (0, "e", 2)], [(0, "d", 2), (1, "d", 1), (1, "e", 2)], [(0, "d", 1), (0, "e", 1)]]:
            self.assertEqual(joined(yard_house(), walks(yard_house(), plan)), plan)

    def test_of_a_house_without_turns(self):
        refused(self, NoPlan, lambda: walks(yard_house(0), [(0, "d", 1)]))


class TheSame(unittest.TestCase):
    def test_for_two_houses_made_alike(self):
        rooms = [("a", 9), ("b", 5)]
        one = House(rooms, [Door("d", "a", "b", 3), Door("e", "b", None, 2)], [("a", 7), ("b", 2)], 6)
        other = House(rooms, [Told("d", "a", "b", lambda turn: 3), Door("e", "b", None, 2)],
                      [("b", 1), ("a", 3), ("b", 1), ("a", 4)], 6)
        for seed in range(5):
            plan = drawn_plan(one, seed)
            self.assertEqual(walks(one, plan), walks(other, plan))
        self.assertEqual(walks(one, first_out(one)), walks(other, first_out(other)))

    def test_asked_again(self):
        for house in drawn_houses():
            plan = drawn_plan(house, 3)
            self.assertEqual(walks(house, plan), walks(house, plan))

    def test_nothing_handed_in_is_changed(self):
        house = yard_house(3)
        before = told_of(house)
        plan = told_otherwise(first_out(house))
        kept = list(plan)
        told = walks(house, plan)
        self.assertEqual(plan, kept)
        plan.clear()
        self.assertEqual(told, walks(house, kept))
        self.assertEqual(told_of(house), before)

    def test_steps_changed_by_the_asker_change_no_other_walk(self):
        for house, plan in [(yard_house(3), first_out(yard_house(3))), (yard_house(0), []), (yard_house(2), []),
                            (large_house(), first_out(large_house()))]:
            kept = walks(house, plan)
            told = walks(house, plan)
            for at, walk in enumerate(told):
                walk[2].append("changed")
                self.assertEqual(told[at + 1:], kept[at + 1:])
            told.clear()
            self.assertEqual(walks(house, plan), kept)


if __name__ == "__main__":
    unittest.main()
