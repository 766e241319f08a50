import unittest

from firstout.cuts import bound
from firstout.doors import Beat, Door, Since, Told, Until
from firstout.first import best_cuts, first_out, most_by
from firstout.house import House
from firstout.plans import faults, out_by, spent
from houses import (GREAT, drawn_house, drawn_houses, each_kind, hall_house, is_lawful, large_house, lawful_plans,
                    most_out, most_out_by_states, outs_of, small_houses, told_of, yard_house)


class FirstOutTest(unittest.TestCase):
    """What holds for each house; the outs of its plan are given back."""

    def is_plan_as_told(self, plan):
        self.assertIsInstance(plan, list)
        self.assertEqual(plan, sorted(plan))
        self.assertEqual(len({row[:2] for row in plan}), len(plan))
        self.assertTrue(all(number >= 1 for turn, name, number in plan))

    def cuts_show(self, house, outs):
        cuts = best_cuts(house)
        turns = range(house.first, house.last + 1)
        self.assertEqual([bound(house, cut, turn) for turn, cut in zip(turns, cuts, strict=True)], outs)
        pairs = set(house.pairs())
        for cut in cuts:
            self.assertIsInstance(cut, list)
            self.assertEqual(cut, sorted(set(cut)))
            self.assertLessEqual(set(cut), pairs)

    def holds_for(self, house):
        plan = first_out(house)
        outs = outs_of(house, plan)
        turns = range(house.first, house.last + 1)
        self.is_plan_as_told(plan)
        self.assertEqual(faults(house, plan), [])
        self.assertEqual([out_by(house, plan, turn) for turn in turns], outs)
        self.assertEqual([most_by(house, turn) for turn in turns], outs)
        self.cuts_show(house, outs)
        return outs


class AsManyAsCanBe(FirstOutTest):
    def test_as_many_as_any_lawful_plan(self):
        for house in small_houses():
            self.assertEqual(self.holds_for(house), most_out(house, lawful_plans(house)))

    def test_as_many_as_any_lawful_plan_of_houses_drawn(self):
        for rooms, doors, last, size in [(1, 3, 3, 5), (2, 5, 4, 4), (3, 5, 4, 4), (3, 6, 5, 3), (4, 8, 5, 2)]:
            for seed in range(40):
                house = drawn_house(seed, rooms, doors, last, size)
                self.assertEqual(self.holds_for(house), most_out_by_states(house), (seed, rooms))
                self.assertTrue(is_lawful(house, first_out(house)))

    def test_houses_of_all_sizes_by_their_cuts(self):
        for house in drawn_houses():
            self.holds_for(house)

    def test_the_houses_of_the_document(self):
        self.assertEqual(self.holds_for(hall_house()), [0, 2, 3])
        self.assertEqual(first_out(hall_house()), [(0, "d", 2), (1, "d", 1)])
        self.assertEqual(self.holds_for(yard_house()), [0, 2, 4])
        self.assertEqual(self.holds_for(yard_house(3, GREAT)), [0, 2, 4, 5])

    def test_the_turns_spent_are_as_few_as_by_any_lawful_plan(self):
        for house in small_houses():
            self.assertEqual(spent(house, first_out(house)), min(spent(house, plan) for plan in lawful_plans(house)))


class Edges(FirstOutTest):
    def test_without_rooms_doors_or_people(self):
        self.assertEqual(self.holds_for(House([], [], [], 0)), [0])
        self.assertEqual(self.holds_for(House([], [], [], 2, 1)), [0, 0])
        self.assertEqual(self.holds_for(House([("a", 1)], [], [("a", 1)], 2)), [0, 0, 0])
        self.assertEqual(self.holds_for(House([("a", 3)], [Door("d", "a")], [], 2)), [0, 0, 0])
        self.assertEqual(self.holds_for(House([("a", 3)], [Door("d", "a")], [("a", 0)], 2)), [0, 0, 0])

    def test_last_equal_to_first(self):
        house = House([("a", 1)], [Door("d", "a")], [("a", 1)], 4, 4)
        self.assertEqual(self.holds_for(house), [0])
        self.assertEqual(first_out(house), [])
        self.assertEqual(len(best_cuts(house)), 1)

    def test_a_room_that_holds_nobody(self):
        doors = [Door("d", "a", "b", 2), Door("e", "b", None, 2)]
        self.assertEqual(self.holds_for(House([("a", 2), ("b", 0)], doors, [("a", 2)], 3)), [0, 0, 0, 0])

    def test_doors_from_a_room_to_itself(self):
        doors = [Door("d", "a", "a", 9), Door("e", "a", None, 1), Door("f", "b", "b", 1), Door("g", "b", "a", 1)]
        self.assertEqual(self.holds_for(House([("a", 2), ("b", 1)], doors, [("a", 2), ("b", 1)], 4)), [0, 1, 2, 3, 3])

    def test_each_kind_of_door_leading_out(self):
        for first in [0, GREAT]:
            for door, lets in each_kind("d", "a", None, first):
                house = House([("a", 7)], [door], [("a", 7)], first + 5, first)
                self.assertEqual(self.holds_for(house), [min(7, sum(lets[:at])) for at in range(6)])

    def test_each_kind_of_door_leading_on(self):
        for first in [0, GREAT]:
            for door, lets in each_kind("d", "a", "b", first):
                house = House([("a", 7), ("b", 9)], [Door("e", "b", None, 9), door], [("a", 7)], first + 5, first)
                self.assertEqual(self.holds_for(house), [0] + [min(7, sum(lets[:at])) for at in range(5)])

    def test_great_numbers(self):
        doors = [Door("d", "a", "b", GREAT), Door("e", "b", None, GREAT + 1), Door("f", "a", None, 3)]
        house = House([("a", 10 * GREAT), ("b", 2 * GREAT)], doors, [("a", 5 * GREAT), ("b", 1)], 3)
        self.assertEqual(self.holds_for(house), [0, 4, GREAT + 7, 2 * GREAT + 10])

    def test_an_exit_is_used_up_to_the_last_turn_and_no_further(self):
        house = House([("a", 9)], [Since("d", "a", None, 2, 3)], [("a", 9)], 5)
        self.assertEqual(first_out(house), [(3, "d", 2), (4, "d", 2)])


class OnePlanForAllTurns(FirstOutTest):
    def test_who_is_early_is_not_late_for_others(self):
        # By the near door two are out at once, or by the far one all at the end: one plan does both.
        doors = [Until("near", "a", None, 2, 1), Since("far", "b", None, 9, 2), Door("way", "a", "b", 9)]
        house = House([("a", 6), ("b", 4)], doors, [("a", 6)], 3)
        self.assertEqual(self.holds_for(house), [0, 2, 2, 6])

    def test_two_who_change_places(self):
        doors = [Door("d", "a", "b"), Door("e", "b", "a"), Since("f", "a", None, 1, 1)]
        house = House([("a", 1), ("b", 1)], doors, [("a", 1), ("b", 1)], 3)
        self.assertEqual(self.holds_for(house), [0, 0, 1, 2])

    def test_who_cannot_be_out_finds_room(self):
        # Only one can be out: were it the one of a, the one of b would be in the way.
        for names in [["a", "b"], ["b", "a"]]:
            house = House([(name, 1) for name in names], [Door("d", "a", "b"), Beat("e", "b", None, 1, 9, 1)],
                          [("a", 1), ("b", 1)], 2)
            self.assertEqual(self.holds_for(house), [0, 0, 1])
            self.assertIn(first_out(house), lawful_plans(house))


class TheSame(unittest.TestCase):
    def test_for_two_houses_made_alike(self):
        for seed in range(8):
            one, other = [drawn_house(seed, 6, 12, 15, 20) for time in range(2)]
            self.assertEqual(first_out(one), first_out(other))
            self.assertEqual(best_cuts(one), best_cuts(other))

    def test_whatever_the_kinds_of_doors_and_the_rows_of_people(self):
        rooms = [("a", 9), ("b", 5), ("c", 5)]
        doors = [Door("d", "a", "b", 3), Until("e", "b", None, 2, 99), Door("f", "a", "c", 3), Door("g", "c", None, 2)]
        one = House(rooms, doors, [("a", 7), ("b", 2)], 6)
        doors = [Told("d", "a", "b", lambda turn: 3), Beat("e", "b", None, 2, 1), Since("f", "a", "c", 3, 0),
                 Told("g", "c", None, lambda turn: 2)]
        other = House(rooms, doors, [("b", 1), ("a", 3), ("c", 0), ("b", 1), ("a", 4)], 6)
        self.assertEqual(first_out(one), first_out(other))
        self.assertEqual(best_cuts(one), best_cuts(other))

    def test_asked_again_whatever_the_asker_did_to_the_lists(self):
        for house in [yard_house(3), large_house()]:
            before = told_of(house)
            plan = first_out(house)
            cuts = best_cuts(house)
            first_out(house).clear()
            changed = best_cuts(house)
            changed.reverse()
            for cut in changed:
                cut.append(("nowhere", 0))
            self.assertEqual(first_out(house), plan)
            self.assertEqual(best_cuts(house), cuts)
            self.assertEqual(told_of(house), before)

    def test_each_cut_is_a_list_of_its_own(self):
        house = yard_house(4)
        cuts = best_cuts(house)
        kept = [list(cut) for cut in cuts]
        for at, cut in enumerate(cuts):
            cut.clear()
            self.assertEqual(cuts[at + 1:], kept[at + 1:])


if __name__ == "__main__":
    unittest.main()
