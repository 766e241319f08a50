import unittest

from firstout.cuts import bound
from firstout.doors import Beat, Door, Since, Told, Until
from firstout.house import House
from houses import GREAT, all_cuts, hall_house, large_house, small_houses, yard_house


class Bound(unittest.TestCase):
    def test_the_example_of_the_document(self):
        self.assertEqual(bound(yard_house(), [("hall", 0)], 1), 4)
        self.assertEqual(bound(yard_house(), [("hall", 0), ("yard", 0)], 1), 2)

    def test_of_first_whatever_the_cut(self):
        for house in small_houses() + [large_house(), large_house(GREAT)]:
            for cut in [[], house.pairs(), house.pairs()[:3], [("x", 1)]]:
                self.assertEqual(bound(house, cut, house.first), 0)

    def test_of_an_empty_cut(self):
        for house in small_houses() + [large_house(GREAT)]:
            for turn in range(house.first + 1, house.last + 1):
                self.assertEqual(bound(house, [], turn), house.total())

    def test_of_all_pairs(self):
        # None are beyond it, so it tells what the doors let out at the turns ahead.
        self.assertEqual([bound(hall_house(), hall_house().pairs(), turn) for turn in [0, 1, 2]], [0, 2, 4])
        house = House([("a", 9), ("b", 9)], [Beat("d", "a", None, 3, 2), Since("e", "b", None, 4, 2), Door("f", "a", "b", 9)],
                      [("a", 9)], 4)
        self.assertEqual([bound(house, house.pairs(), turn) for turn in range(5)], [0, 3, 3, 10, 14])

    def test_pairs_that_the_house_has_not(self):
        strange = [("attic", 0), ("hall", -1), ("hall", 3), ("d", 0), ("e", 1), ("", 0), ("hall", GREAT), ("yard", 9)]
        for turn in [0, 1, 2]:
            for cut in [[], [("hall", 0)], [("hall", 0), ("yard", 0)], [("yard", 0), ("hall", 1)]]:
                expected = bound(yard_house(), cut, turn)
                self.assertEqual(bound(yard_house(), cut + strange, turn), expected)
                self.assertEqual(bound(yard_house(), strange + cut, turn), expected)

    def test_a_pair_twice_and_any_order(self):
        cut = [("hall", 0), ("yard", 0), ("hall", 1)]
        for turn in [1, 2]:
            expected = bound(yard_house(), cut, turn)
            self.assertEqual(bound(yard_house(), cut + cut, turn), expected)
            self.assertEqual(bound(yard_house(), [cut[1], cut[2], cut[0], cut[1]], turn), expected)

    def test_pairs_from_turn_on_are_nothing(self):
        later = [("hall", 2), ("yard", 2), ("yard", 3)]
        for cut in [[], [("hall", 0)], [("yard", 1), ("hall", 1)]]:
            self.assertEqual(bound(yard_house(3), cut + later, 2), bound(yard_house(3), cut, 2))

    def test_people_beyond_the_cut_at_first(self):
        house = House([("a", 9), ("b", 9), ("c", 9)], [], [("a", 1), ("b", 2), ("c", 4)], 8, 5)
        for turn in [6, 7]:
            # Without doors out the pairs ahead of turn are all in it, so that nobody goes beyond.
            stays = [[(room, at) for at in range(5, turn)] for room in ["a", "b", "c"]]
            self.assertEqual(bound(house, stays[0], turn), 6)
            self.assertEqual(bound(house, stays[1] + stays[2], turn), 1)
            self.assertEqual(bound(house, stays[0] + stays[1] + stays[2], turn), 0)

    def test_what_a_room_holds_where_it_was_in_the_cut(self):
        # Of hall at 1 beyond the cut: 3, though nobody is let in; of yard: 9, though none can go.
        self.assertEqual(bound(hall_house(), [("hall", 0)], 2), 2 + 3)
        self.assertEqual(bound(yard_house(), [("yard", 0)], 2), 3 + 9 + 3)
        self.assertEqual(bound(yard_house(), [("yard", 0), ("hall", 1)], 2), 3 + 9 + 2)
        self.assertEqual(bound(yard_house(), [("yard", 0), ("yard", 1)], 2), 3 + 3)

    def test_the_lesser_of_what_a_room_holds_and_what_its_doors_let_in(self):
        for holds, wide, expected in [(3, 4, 3), (4, 4, 4), (5, 4, 4), (0, 4, 0), (5, 0, 0)]:
            house = House([("a", holds), ("b", 9)], [Door("d", "b", "a", wide)], [("b", 7)], 2)
            self.assertEqual(bound(house, [("b", 0), ("b", 1)], 2), expected)

    def test_all_doors_into_it_together(self):
        doors = [Door("d", "b", "a", 2), Door("e", "c", "a", 3), Door("f", "b", "a", 4), Door("g", "a", "b", 50),
                 Door("h", "b", "c", 1)]
        for holds, expected in [(20, [6, 3, 9]), (5, [5, 3, 5])]:
            house = House([("a", holds), ("b", 0), ("c", 0)], doors, [], 2)
            cuts = [[("b", 0), ("b", 1), ("c", 1)], [("c", 0), ("b", 1), ("c", 1)], [("b", 0), ("c", 0), ("b", 1), ("c", 1)]]
            self.assertEqual([bound(house, cut, 2) for cut in cuts], expected)
            # A pair at another turn lets nobody in at this one.
            self.assertEqual(bound(house, [("b", 1), ("c", 1)], 2), 0)

    def test_the_turn_at_which_the_doors_let_in(self):
        house = House([("a", 99), ("b", 0)], [Told("d", "b", "a", lambda turn: turn * 10)], [], 9, 5)
        cuts = [[("b", 5), ("b", 6), ("b", 7), ("b", 8)]]
        self.assertEqual([bound(house, cuts[0], turn) for turn in [6, 7, 8, 9]], [0, 50, 110, 180])

    def test_a_door_from_a_room_to_itself(self):
        house = House([("a", 9), ("b", 9)], [Door("d", "a", "a", 5), Door("e", "b", "a", 2)], [("b", 9)], 2)
        self.assertEqual(bound(house, [("b", 0), ("b", 1)], 2), 2)
        # Where a is in the cut at 0, all that it holds may stay in it, not only who goes through d.
        self.assertEqual(bound(house, [("a", 0), ("b", 0), ("b", 1)], 2), 9)
        self.assertEqual(bound(house, [("a", 0), ("a", 1), ("b", 0), ("b", 1)], 2), 0)

    def test_doors_that_lead_out_at_the_turns_ahead_of_turn_alone(self):
        house = House([("a", 0)], [Told("d", "a", None, lambda turn: 10 ** (turn - 3))], [], 6, 3)
        self.assertEqual([bound(house, house.pairs(), turn) for turn in [3, 4, 5, 6]], [0, 1, 11, 111])
        self.assertEqual([bound(house, [("a", 4)], turn) for turn in [4, 5, 6]], [0, 10, 10])
        self.assertEqual([bound(house, [("a", 5)], turn) for turn in [4, 5, 6]], [0, 0, 100])
        self.assertEqual([bound(house, [("a", 6)], turn) for turn in [4, 5, 6]], [0, 0, 0])

    def test_two_doors_that_lead_out(self):
        doors = [Door("d", "a", None, 1), Until("e", "b", None, 10, 1), Door("f", "b", None, 100)]
        house = House([("a", 0), ("b", 0)], doors, [], 2)
        self.assertEqual([bound(house, [("a", 0)], turn) for turn in [1, 2]], [1, 1])
        self.assertEqual([bound(house, [("b", 0)], turn) for turn in [1, 2]], [110, 110])
        self.assertEqual([bound(house, house.pairs(), turn) for turn in [1, 2]], [111, 212])

    def test_a_house_without_rooms(self):
        self.assertEqual([bound(House([], [], [], 2), [], turn) for turn in [0, 1, 2]], [0, 0, 0])

    def test_first_of_twelve_figures(self):
        for turn in [1, 2, 3]:
            for cut in all_cuts(yard_house(3)):
                moved = [(room, at + GREAT) for room, at in cut]
                self.assertEqual(bound(yard_house(3, GREAT), moved, turn + GREAT), bound(yard_house(3), cut, turn))


class NothingIsChanged(unittest.TestCase):
    def test_by_asking(self):
        house = yard_house(3)
        cut = [("yard", 1), ("hall", 0), ("x", 9), ("hall", 0)]
        copy = list(cut)
        told = [[bound(house, cut, turn) for turn in range(4)] for time in range(2)]
        self.assertEqual(told[0], told[1])
        self.assertEqual(cut, copy)
        self.assertEqual((house.rooms(), house.doors(), house.total()), (["hall", "yard"], ["d", "e"], 5))


if __name__ == "__main__":
    unittest.main()
