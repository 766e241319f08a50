import unittest

from firstout.doors import Door, Shut, Told, Until, Wider
from firstout.errors import NoText
from houses import doors_and_words


class Words(unittest.TestCase):
    def test_of_each_kind(self):
        for end, written in [("yard", "yard"), ("hall", "hall"), (None, "-")]:
            for door, words in doors_and_words(end, written):
                self.assertEqual(door.words(), words)

    def test_with_the_end_left_out(self):
        self.assertEqual(Door("a", "hall").words(), "door a hall - 1")

    def test_of_a_shut_and_a_wider_round_each_kind(self):
        for end, written in [("yard", "yard"), (None, "-")]:
            for door, words in doors_and_words(end, written):
                self.assertEqual(Shut(door, 7).words(), "shut 7 " + words)
                self.assertEqual(Shut(door, 0).words(), "shut 0 " + words)
                self.assertEqual(Wider(door, 7, 4).words(), "wider 7 4 " + words)
                self.assertEqual(Wider(door, 0, 0).words(), "wider 0 0 " + words)
                self.assertEqual(Shut(Wider(door, 3, 4), 5).words(), "shut 5 wider 3 4 " + words)
                self.assertEqual(Wider(Shut(door, 5), 3, 4).words(), "wider 3 4 shut 5 " + words)

    def test_of_twelve_round_one_another(self):
        door = Until("a", "hall", None, 2, 5)
        words = "until a hall - 2 5"
        for step in range(6):
            door = Wider(Shut(door, step), step + 1, step + 2)
            words = f"wider {step + 1} {step + 2} shut {step} {words}"
        self.assertEqual(door.words(), words)

    def test_are_the_same_asked_again(self):
        for door, words in doors_and_words(None, "-"):
            was = dict(vars(door))
            self.assertEqual([door.words(), door.words()], [words, words])
            self.assertEqual(vars(door), was)


class NoWords(unittest.TestCase):
    def test_a_told_has_none(self):
        for end in ["yard", None]:
            with self.assertRaises(NoText):
                Told("a", "hall", end, lambda turn: 1).words()

    def test_nor_has_what_is_round_one(self):
        told = Told("a", "hall", None, lambda turn: 1)
        for door in [Shut(told, 1), Wider(told, 1, 2), Shut(Wider(told, 1, 2), 3), Wider(Shut(told, 1), 2, 3),
                     Shut(told, 0)]:
            with self.assertRaises(NoText):
                door.words()

    def test_nor_has_the_outermost_of_twelve(self):
        door = Told("a", "hall", None, lambda turn: 1)
        for step in range(6):
            door = Wider(Shut(door, 30), step, 1)
        with self.assertRaises(NoText):
            door.words()


if __name__ == "__main__":
    unittest.main()
