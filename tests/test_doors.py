import unittest

from firstout.doors import Beat, Door, Marked, Shut, Since, Told, Until, Wider

GREAT = 10 ** 12


def lets_from_0(door, turns):
    return [door.lets(turn) for turn in range(turns)]


def each_kind(end):
    within = Door("a", "hall", end, 2)
    return [
        Door("a", "hall", end, 2),
        Since("a", "hall", end, 2, 3),
        Until("a", "hall", end, 2, 3),
        Beat("a", "hall", end, 2, 3, 1),
        Marked("a", "hall", end, 2, 5),
        Told("a", "hall", end, lambda turn: turn),
        Shut(within, 3),
        Wider(within, 3, 4),
    ]


class Fields(unittest.TestCase):
    def test_name_start_and_end_of_each_kind(self):
        for end in ["yard", "hall", None]:
            for door in each_kind(end):
                self.assertEqual((door.name, door.start, door.end), ("a", "hall", end), door)

    def test_is_exit_of_each_kind(self):
        for door in each_kind("yard"):
            self.assertIs(door.is_exit(), False, door)
        for door in each_kind(None):
            self.assertIs(door.is_exit(), True, door)

    def test_the_arguments_have_their_names(self):
        place = {"name": "b", "start": "hall", "end": "yard"}
        within = Door(wide=2, **place)
        doors = [
            (within, [2, 2, 2, 2]),
            (Since(wide=2, since=1, **place), [0, 2, 2, 2]),
            (Until(wide=2, until=1, **place), [2, 0, 0, 0]),
            (Beat(wide=2, every=2, since=1, **place), [0, 2, 0, 2]),
            (Marked(wide=2, bits=6, **place), [0, 2, 2, 0]),
            (Told(letting=lambda turn: turn + 1, **place), [1, 2, 3, 4]),
            (Shut(door=within, turn=1), [2, 0, 0, 0]),
            (Wider(door=within, turn=1, more=3), [2, 5, 5, 5]),
        ]
        for door, lets in doors:
            self.assertEqual((door.name, door.start, door.end), ("b", "hall", "yard"), door)
            self.assertEqual(lets_from_0(door, 4), lets, door)

    def test_the_seven_others_stand_straight_under_door(self):
        for kind in [Since, Until, Beat, Marked, Told, Shut, Wider]:
            self.assertEqual(kind.__bases__, (Door,))


class NeverChanges(unittest.TestCase):
    def test_a_door_is_as_it_was_and_answers_as_it_did(self):
        for end in ["yard", None]:
            for door in each_kind(end):
                was = dict(vars(door))
                first = lets_from_0(door, 12) + [door.lets(GREAT), door.is_exit()]
                again = lets_from_0(door, 12) + [door.lets(GREAT), door.is_exit()]
                self.assertEqual(first, again)
                self.assertEqual(vars(door), was)

    def test_the_order_of_asking_does_not_matter(self):
        for door in each_kind(None):
            forth = [door.lets(turn) for turn in range(12)]
            back = [door.lets(turn) for turn in reversed(range(12))]
            self.assertEqual(forth, back[::-1])


class Plain(unittest.TestCase):
    def test_lets_wide_at_each_turn(self):
        door = Door("a", "hall", "yard", 7)
        self.assertEqual(lets_from_0(door, 5), [7] * 5)
        self.assertEqual(door.lets(GREAT), 7)

    def test_wide_0(self):
        door = Door("a", "hall", None, 0)
        self.assertEqual([door.lets(0), door.lets(1), door.lets(GREAT)], [0, 0, 0])

    def test_wide_left_out(self):
        door = Door("a", "hall", "yard")
        self.assertEqual(door.end, "yard")
        self.assertEqual([door.lets(0), door.lets(9), door.lets(GREAT)], [1, 1, 1])

    def test_end_and_wide_left_out(self):
        door = Door("a", "hall")
        self.assertIs(door.end, None)
        self.assertIs(door.is_exit(), True)
        self.assertEqual(door.lets(0), 1)

    def test_end_left_out(self):
        door = Door("a", "hall", wide=6)
        self.assertIs(door.end, None)
        self.assertIs(door.is_exit(), True)
        self.assertEqual(door.lets(3), 6)


class SinceAndUntil(unittest.TestCase):
    def test_since(self):
        door = Since("a", "hall", None, 5, 3)
        self.assertEqual(lets_from_0(door, 6), [0, 0, 0, 5, 5, 5])
        self.assertEqual(door.lets(GREAT), 5)

    def test_since_0(self):
        self.assertEqual(lets_from_0(Since("a", "hall", None, 5, 0), 3), [5, 5, 5])

    def test_since_a_very_great_turn(self):
        door = Since("a", "hall", None, 5, GREAT)
        self.assertEqual([door.lets(turn) for turn in [0, GREAT - 1, GREAT, GREAT + 1]], [0, 0, 5, 5])

    def test_until(self):
        door = Until("a", "hall", None, 5, 3)
        self.assertEqual(lets_from_0(door, 6), [5, 5, 5, 0, 0, 0])
        self.assertEqual(door.lets(GREAT), 0)

    def test_until_0(self):
        self.assertEqual(lets_from_0(Until("a", "hall", None, 5, 0), 3), [0, 0, 0])

    def test_until_a_very_great_turn(self):
        door = Until("a", "hall", None, 5, GREAT)
        self.assertEqual([door.lets(turn) for turn in [0, GREAT - 1, GREAT, GREAT + 1]], [5, 5, 0, 0])

    def test_wide_0(self):
        self.assertEqual(lets_from_0(Since("a", "hall", None, 0, 2), 4), [0] * 4)
        self.assertEqual(lets_from_0(Until("a", "hall", None, 0, 2), 4), [0] * 4)


class Beats(unittest.TestCase):
    def test_every_1(self):
        self.assertEqual(lets_from_0(Beat("a", "hall", None, 4, 1), 5), [4] * 5)
        self.assertEqual(lets_from_0(Beat("a", "hall", None, 4, 1, 2), 5), [0, 0, 4, 4, 4])

    def test_every_3_since_left_out(self):
        self.assertEqual(lets_from_0(Beat("a", "hall", None, 4, 3), 8), [4, 0, 0, 4, 0, 0, 4, 0])

    def test_every_2_since_0(self):
        self.assertEqual(lets_from_0(Beat("a", "hall", None, 4, 2, 0), 5), [4, 0, 4, 0, 4])

    def test_none_ahead_of_since(self):
        # The turns 1 and 3 are whole beats ahead of 5, and let none all the same.
        self.assertEqual(lets_from_0(Beat("a", "hall", None, 4, 2, 5), 10), [0, 0, 0, 0, 0, 4, 0, 4, 0, 4])
        self.assertEqual(lets_from_0(Beat("a", "hall", None, 4, 3, 3), 7), [0, 0, 0, 4, 0, 0, 4])

    def test_every_greater_than_all_turns(self):
        self.assertEqual(lets_from_0(Beat("a", "hall", None, 4, 100, 1), 5), [0, 4, 0, 0, 0])

    def test_very_great_turns(self):
        door = Beat("a", "hall", None, 4, 10, 3)
        self.assertEqual([door.lets(GREAT + more) for more in [2, 3, 4, 12, 13]], [0, 4, 0, 0, 4])
        self.assertEqual(Beat("a", "hall", None, 4, 1).lets(GREAT), 4)
        self.assertEqual(Beat("a", "hall", None, 4, GREAT).lets(GREAT), 4)
        self.assertEqual(Beat("a", "hall", None, 4, 1, GREAT).lets(GREAT - 1), 0)

    def test_wide_0(self):
        self.assertEqual(lets_from_0(Beat("a", "hall", None, 0, 2), 4), [0] * 4)


class Marks(unittest.TestCase):
    def test_the_bits_from_the_lowest_on(self):
        self.assertEqual(lets_from_0(Marked("a", "hall", None, 3, 1), 4), [3, 0, 0, 0])
        self.assertEqual(lets_from_0(Marked("a", "hall", None, 3, 2), 4), [0, 3, 0, 0])
        self.assertEqual(lets_from_0(Marked("a", "hall", None, 3, 13), 6), [3, 0, 3, 3, 0, 0])

    def test_no_bits(self):
        door = Marked("a", "hall", None, 3, 0)
        self.assertEqual(lets_from_0(door, 4), [0] * 4)
        self.assertEqual(door.lets(GREAT), 0)

    def test_below_at_and_beyond_the_only_bit(self):
        door = Marked("a", "hall", None, 3, 2 ** 40)
        self.assertEqual([door.lets(turn) for turn in [0, 39, 40, 41, 80]], [0, 0, 3, 0, 0])

    def test_far_beyond_the_bits(self):
        for bits in [0, 1, 13, 2 ** 46 - 1]:
            door = Marked("a", "hall", None, 3, bits)
            for turn in [46, 64, GREAT, 10 ** 14, 10 ** 30]:
                self.assertEqual(door.lets(turn), 0, (bits, turn))

    def test_wide_0(self):
        self.assertEqual(lets_from_0(Marked("a", "hall", None, 0, 7), 4), [0] * 4)


class Tolds(unittest.TestCase):
    def test_what_the_function_answers(self):
        door = Told("a", "hall", None, lambda turn: turn * turn)
        self.assertEqual(lets_from_0(door, 5), [0, 1, 4, 9, 16])
        self.assertEqual(door.lets(GREAT), GREAT * GREAT)

    def test_the_function_is_asked_for_this_very_turn(self):
        asked = []

        def letting(turn):
            asked.append(turn)
            return 2

        door = Told("a", "hall", "yard", letting)
        self.assertEqual(asked, [])
        for turn in [0, 4, 1, GREAT]:
            asked.clear()
            self.assertEqual(door.lets(turn), 2)
            self.assertEqual(set(asked), {turn})

    def test_two_doors_keep_their_own_functions(self):
        one = Told("a", "hall", None, lambda turn: 1)
        two = Told("b", "hall", None, lambda turn: 2)
        self.assertEqual([one.lets(0), two.lets(0), one.lets(0)], [1, 2, 1])


if __name__ == "__main__":
    unittest.main()
