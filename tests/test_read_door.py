import unittest

from firstout.doors import Beat, Door, Marked, Shut, Since, Until, Wider
from firstout.errors import NoText
from firstout.words import read_door
from houses import GREAT, doors_and_words, refused

TURNS = list(range(40)) + [GREAT, GREAT + 1, 10 ** 12 - 1, 10 ** 12, 10 ** 13]

# One of each kind, and of each kind round another one.
GOOD = [
    "door a hall - 1", "door a hall yard 2", "since a hall - 1 2", "until a hall yard 1 2", "beat a hall - 1 2 3",
    "marked a hall yard 1 2", "shut 3 door a hall - 1", "wider 3 4 since a hall - 1 2", "shut 5 wider 3 4 door a hall - 1",
]


class ReadDoor(unittest.TestCase):
    def is_the_same(self, read, door):
        self.assertIs(type(read), type(door))
        self.assertEqual((read.name, read.start, read.end), (door.name, door.start, door.end))
        self.assertEqual(read.is_exit(), door.is_exit())
        self.assertEqual(read.words(), door.words())
        self.assertEqual([read.lets(turn) for turn in TURNS], [door.lets(turn) for turn in TURNS])

    def test_of_each_kind(self):
        for end, written in [("yard", "yard"), ("hall", "hall"), (None, "-")]:
            for door, words in doors_and_words(end, written):
                self.is_the_same(read_door(words), door)

    def test_a_shut_and_a_wider_round_each_kind(self):
        for end, written in [("yard", "yard"), (None, "-")]:
            for door, words in doors_and_words(end, written):
                self.is_the_same(read_door("shut 7 " + words), Shut(door, 7))
                self.is_the_same(read_door("shut 0 " + words), Shut(door, 0))
                self.is_the_same(read_door("wider 3 4 " + words), Wider(door, 3, 4))
                self.is_the_same(read_door("wider 0 0 " + words), Wider(door, 0, 0))
                self.is_the_same(read_door("shut 5 wider 3 4 " + words), Shut(Wider(door, 3, 4), 5))
                self.is_the_same(read_door("wider 3 4 shut 5 " + words), Wider(Shut(door, 5), 3, 4))
                self.is_the_same(read_door("shut 5 shut 3 " + words), Shut(Shut(door, 3), 5))
                self.is_the_same(read_door("wider 5 1 wider 3 4 " + words), Wider(Wider(door, 3, 4), 5, 1))

    def test_up_to_twelve_round_one_another_and_somewhat_more(self):
        for door in [Door("a", "hall", None, 2), Beat("a", "hall", "yard", 3, 2, 1), Marked("a", "hall", None, 1, 2 ** 40 - 2)]:
            for step in range(20):
                door = Wider(door, 2 * step, step + 1) if step % 3 == 0 else Shut(door, 38 - step)
                self.is_the_same(read_door(door.words()), door)

    def test_names_that_are_words_of_other_things(self):
        for door in [Door("door", "since", "shut", 2), Since("wider", "shut", None, 1, 2), Until("none", "way", "room", 1, 2),
                     Shut(Door("shut", "shut", "shut", 3), 2), Wider(Beat("beat", "marked", "wider", 3, 2, 1), 2, 1)]:
            self.is_the_same(read_door(door.words()), door)

    def test_numbers_up_to_sixty_figures(self):
        self.assertEqual(read_door("door a hall - " + "9" * 60).lets(3), 10 ** 60 - 1)
        self.assertEqual(read_door("shut " + "9" * 60 + " door a hall - 5").lets(10 ** 60 - 2), 5)
        self.assertEqual(read_door("shut " + "9" * 60 + " door a hall - 5").lets(10 ** 60 - 1), 0)
        self.assertEqual(read_door("marked a hall - 4 " + str(2 ** 40)).lets(40), 4)

    def test_asked_again_it_is_the_same(self):
        for words in GOOD:
            self.is_the_same(read_door(words), read_door(words))
            self.assertEqual(read_door(words).words(), words)


class NoDoorRead(unittest.TestCase):
    def test_what_is_no_text(self):
        for thing in [None, 5, True, [], ["door", "a", "hall", "-", "1"], ("door a hall - 1",), Door("a", "hall"), {}, b"door"]:
            refused(self, NoText, lambda: read_door(thing))

    def test_a_word_too_few_or_too_many(self):
        for words in GOOD:
            parts = words.split(" ")
            for at in range(len(parts)):
                refused(self, NoText, lambda: read_door(" ".join(parts[:at])))
                refused(self, NoText, lambda: read_door(" ".join(parts[:at] + parts[at + 1:])))
            for more in ["1", "a", "-", "0", "", "door", "shut"]:
                refused(self, NoText, lambda: read_door(words + " " + more))
                refused(self, NoText, lambda: read_door(more + " " + words))

    def test_blanks_tabs_and_line_ends(self):
        for words in GOOD:
            for text in [" " + words, words + " ", words.replace(" ", "  "), words.replace(" ", "\t"), words + "\n",
                         "\n" + words, words.replace(" ", "\n"), words + "\t", words.replace(" ", "", 1),
                         words.replace(" ", "  ", 1), "  ".join(words.rsplit(" ", 1))]:
                refused(self, NoText, lambda: read_door(text))
        for text in ["", " ", "  ", "\n", "\t"]:
            refused(self, NoText, lambda: read_door(text))

    def test_shut_and_wider_with_nothing_or_too_little_behind(self):
        for text in ["shut", "wider", "shut 3", "wider 3 4", "wider 3", "shut ", "wider ", "shut 3 ", "wider 3 4 ", "shut 3 shut",
                     "shut 3 shut 4", "wider 3 4 shut 5", "shut 3 wider 3 4", "shut door a hall - 1", "wider door a hall - 1",
                     "wider 3 door a hall - 1", "shut 3 4 door a hall - 1", "wider 3 4 5 door a hall - 1",
                     "shut 3 shut door a hall - 1", "shut 3 a hall - 1", "shut 3 hall", "shut shut shut", "wider wider wider"]:
            refused(self, NoText, lambda: read_door(text))

    def test_kinds_that_there_are_none(self):
        for kind in ["told", "Door", "DOOR", "doors", "marks", "way", "house", "open", "a", "-", "1", "", "shut", "wider"]:
            for behind in ["a hall - 1", "a hall -", "a hall - 1 2", "a hall yard 1 2 3"]:
                refused(self, NoText, lambda: read_door(f"{kind} {behind}"))
        for text in ["told a hall -", "shut 3 told a hall -", "wider 3 4 told a hall - 1"]:
            refused(self, NoText, lambda: read_door(text))

    def test_bad_names(self):
        for bad in ["A", "Hall", "ninechars", "a1", "1", "a-b", "a_b", "", "*", "--", "a\n", "`", "{"]:
            for kind, numbers in [("door", "1"), ("since", "1 2"), ("until", "1 2"), ("beat", "1 2 3"), ("marked", "1 2")]:
                for ahead in ["", "shut 3 ", "wider 3 4 "]:
                    refused(self, NoText, lambda: read_door(f"{ahead}{kind} {bad} hall yard {numbers}"))
                    refused(self, NoText, lambda: read_door(f"{ahead}{kind} a {bad} yard {numbers}"))
                    refused(self, NoText, lambda: read_door(f"{ahead}{kind} a hall {bad} {numbers}"))

    def test_a_dash_stands_for_an_end_alone(self):
        refused(self, NoText, lambda: read_door("door - hall yard 1"))
        refused(self, NoText, lambda: read_door("door a - yard 1"))
        refused(self, NoText, lambda: read_door("door a hall None 1"))
        refused(self, NoText, lambda: read_door("door a hall - -"))
        self.assertEqual(read_door("door a hall none 1").end, "none")

    def test_bad_numbers(self):
        for bad in ["-1", "+1", "01", "00", "1.0", "1_0", "x", "-", "", "1e1", "9" * 61, "1\n"]:
            for form in ["door a hall - {}", "since a hall - {} 2", "since a hall - 1 {}", "until a hall - {} 2",
                         "until a hall - 1 {}", "beat a hall - {} 2 3", "beat a hall - 1 {} 3", "beat a hall - 1 2 {}",
                         "marked a hall - {} 2", "marked a hall - 1 {}", "shut {} door a hall - 1",
                         "wider {} 4 door a hall - 1", "wider 3 {} door a hall - 1", "shut 3 wider 3 {} door a hall - 1"]:
                refused(self, NoText, lambda: read_door(form.replace("{}", bad)))

    def test_every_nought(self):
        for text in ["beat a hall - 1 0 0", "beat a hall yard 1 0 3", "shut 3 beat a hall - 1 0 0", "wider 3 4 beat a hall - 1 0 2"]:
            refused(self, NoText, lambda: read_door(text))

    def test_no_end_of_doors_round_one_another(self):
        refused(self, NoText, lambda: read_door("shut 1 " * 3000 + "nothing"))
        refused(self, NoText, lambda: read_door("wider 1 2 " * 3000))


if __name__ == "__main__":
    unittest.main()
