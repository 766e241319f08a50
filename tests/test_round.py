import unittest

from firstout.doors import Beat, Door, Marked, Shut, Since, Told, Until, Wider

GREAT = 10 ** 12


def lets_from_0(door, turns):
    return [door.lets(turn) for turn in range(turns)]


# Each kind with what it lets at the turns 0 to 6.
def kinds_and_lets(end):
    return [
        (Door("a", "hall", end, 2), [2, 2, 2, 2, 2, 2, 2]),
        (Door("a", "hall", end, 0), [0, 0, 0, 0, 0, 0, 0]),
        (Since("a", "hall", end, 2, 3), [0, 0, 0, 2, 2, 2, 2]),
        (Until("a", "hall", end, 2, 5), [2, 2, 2, 2, 2, 0, 0]),
        (Beat("a", "hall", end, 2, 2, 1), [0, 2, 0, 2, 0, 2, 0]),
        (Marked("a", "hall", end, 2, 0b1011010), [0, 2, 0, 2, 2, 0, 2]),
        (Told("a", "hall", end, lambda turn: turn % 3), [0, 1, 2, 0, 1, 2, 0]),
        (Shut(Door("a", "hall", end, 2), 5), [2, 2, 2, 2, 2, 0, 0]),
        (Wider(Door("a", "hall", end, 2), 2, 1), [2, 2, 3, 3, 3, 3, 3]),
    ]


class Shuts(unittest.TestCase):
    def test_round_each_kind_at_each_turn(self):
        for within, lets in kinds_and_lets("yard"):
            for turn in range(9):
                expected = [number if at < turn else 0 for at, number in enumerate(lets)]
                self.assertEqual(lets_from_0(Shut(within, turn), 7), expected, (within, turn))

    def test_very_great_turns(self):
        door = Shut(Door("a", "hall", None, 2), GREAT)
        self.assertEqual([door.lets(turn) for turn in [0, GREAT - 1, GREAT, GREAT + 1]], [2, 2, 0, 0])


class Widers(unittest.TestCase):
    def test_the_example_of_the_document(self):
        door = Wider(Until("a", "hall", None, 2, 5), 3, 4)
        self.assertEqual(lets_from_0(door, 6), [2, 2, 2, 6, 6, 0])

    def test_round_each_kind_at_each_turn(self):
        for within, lets in kinds_and_lets("yard"):
            for turn in range(9):
                expected = [number + 4 if at >= turn and number > 0 else number for at, number in enumerate(lets)]
                self.assertEqual(lets_from_0(Wider(within, turn, 4), 7), expected, (within, turn))

    def test_none_where_the_door_within_lets_none(self):
        self.assertEqual(lets_from_0(Wider(Door("a", "hall", None, 0), 0, 9), 3), [0, 0, 0])
        self.assertEqual(lets_from_0(Wider(Shut(Door("a", "hall"), 1), 0, 9), 3), [10, 0, 0])

    def test_0_more(self):
        self.assertEqual(lets_from_0(Wider(Until("a", "hall", None, 2, 2), 1, 0), 4), [2, 2, 0, 0])

    def test_very_great_turns(self):
        door = Wider(Door("a", "hall", None, 2), GREAT, 3)
        self.assertEqual([door.lets(turn) for turn in [0, GREAT - 1, GREAT, GREAT + 1]], [2, 2, 5, 5])


class OneRoundTheOther(unittest.TestCase):
    def test_a_shut_within_a_wider_and_the_other_way_about(self):
        within = Door("a", "hall", None, 2)
        self.assertEqual(lets_from_0(Wider(Shut(within, 4), 2, 3), 6), [2, 2, 5, 5, 0, 0])
        self.assertEqual(lets_from_0(Shut(Wider(within, 2, 3), 4), 6), [2, 2, 5, 5, 0, 0])

    def test_twelve_widers_round_each_kind(self):
        for within, lets in kinds_and_lets(None):
            door = within
            for turn in range(12):
                door = Wider(door, turn % 6, 10)
            # Two of the twelve begin at each of the turns 0 to 5.
            expected = [number + 20 * min(at + 1, 6) if number > 0 else 0 for at, number in enumerate(lets)]
            self.assertEqual(lets_from_0(door, 7), expected, within)

    def test_twelve_shuts_round_each_kind(self):
        for within, lets in kinds_and_lets(None):
            door = within
            for turn in [9, 12, 8, 7, 4, 6, 11, 5, 10, 4, 20, 5]:
                door = Shut(door, turn)
            expected = [number if at < 4 else 0 for at, number in enumerate(lets)]
            self.assertEqual(lets_from_0(door, 7), expected, within)

    def test_twelve_by_turns_round_each_kind(self):
        for within, lets in kinds_and_lets("yard"):
            door = within
            for step in range(6):
                door = Shut(Wider(door, step, 10), 12 - step)
            expected = [number + 10 * min(at + 1, 6) if number > 0 else 0 for at, number in enumerate(lets)]
            self.assertEqual(lets_from_0(door, 7), expected, within)
            self.assertEqual([door.lets(turn) for turn in [7, 12, GREAT]], [0, 0, 0])

    def test_fields_and_is_exit_through_all_of_them(self):
        for end in ["yard", None]:
            for within, lets in kinds_and_lets(end):
                door = within
                for step in range(6):
                    door = Wider(Shut(door, 20), step, 1)
                self.assertEqual((door.name, door.start, door.end), ("a", "hall", end))
                self.assertIs(door.is_exit(), end is None)

    def test_very_great_turns_through_all_of_them(self):
        door = Door("a", "hall", None, 2)
        for step in range(12):
            door = Wider(door, step, 1)
        self.assertEqual(door.lets(GREAT), 14)

    def test_a_told_within_is_asked_for_this_very_turn(self):
        asked = []

        def letting(turn):
            asked.append(turn)
            return 1

        door = Told("a", "hall", None, letting)
        for step in range(6):
            door = Wider(Shut(door, 30), step, 1)
        self.assertEqual(asked, [])
        self.assertEqual(door.lets(3), 5)
        self.assertEqual(set(asked), {3})
        # Asked twice by each one round it, it would be some thousand times.
        self.assertLess(len(asked), 20)


class TheDoorWithin(unittest.TestCase):
    def test_is_as_it_was(self):
        for end in ["yard", None]:
            for within, lets in kinds_and_lets(end):
                was = dict(vars(within))
                for door in [Shut(within, 1), Wider(within, 1, 5), Shut(Wider(within, 0, 5), 3)]:
                    lets_from_0(door, 7)
                    door.is_exit()
                self.assertEqual(vars(within), was)
                self.assertEqual(lets_from_0(within, 7), lets)

    def test_two_round_one_door_know_nothing_of_one_another(self):
        within = Door("a", "hall", None, 2)
        shut = Shut(within, 1)
        wider = Wider(within, 1, 3)
        self.assertEqual(lets_from_0(shut, 3), [2, 0, 0])
        self.assertEqual(lets_from_0(wider, 3), [2, 5, 5])
        self.assertEqual(lets_from_0(shut, 3), [2, 0, 0])


if __name__ == "__main__":
    unittest.main()
