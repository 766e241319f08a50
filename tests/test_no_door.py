import unittest

from firstout.doors import Beat, Door, Marked, Shut, Since, Told, Until, Wider
from firstout.errors import NoDoor

NO_NAMES = ["", "abcdefghi", "A", "Hall", "hAll", "a1", "1", " ", "a b", "a ", " a", "a\n", "-", "\u00e9", True, False, 0,
            1, b"a", [], ["a"], ("a",), {"a": 1}, 1.5]
NO_WHOLES = [True, False, None, "", "1", "a", [], [1], (1,), {}, {1: 1}, 1.0, 1.5, b"1"]

PLACE = {"name": "a", "start": "hall", "end": None}
WITHIN = Door("a", "hall", None, 2)

# Each kind with good arguments, and its numbers with the least of each.
KINDS = [
    (Door, {**PLACE, "wide": 2}, {"wide": 0}),
    (Since, {**PLACE, "wide": 2, "since": 3}, {"wide": 0, "since": 0}),
    (Until, {**PLACE, "wide": 2, "until": 3}, {"wide": 0, "until": 0}),
    (Beat, {**PLACE, "wide": 2, "every": 3, "since": 4}, {"wide": 0, "every": 1, "since": 0}),
    (Marked, {**PLACE, "wide": 2, "bits": 3}, {"wide": 0, "bits": 0}),
    (Told, {**PLACE, "letting": lambda turn: 1}, {}),
    (Shut, {"door": WITHIN, "turn": 3}, {"turn": 0}),
    (Wider, {"door": WITHIN, "turn": 3, "more": 4}, {"turn": 0, "more": 0}),
]
NAMED_KINDS = [row for row in KINDS if "name" in row[1]]


class Refused(unittest.TestCase):
    def refuses(self, kind, good, part, thing):
        with self.assertRaises(NoDoor, msg=(kind, part, thing)):
            kind(**{**good, part: thing})

    def test_what_is_no_name(self):
        for kind, good, least in NAMED_KINDS:
            for part in ["name", "start", "end"]:
                for thing in NO_NAMES:
                    self.refuses(kind, good, part, thing)

    def test_none_is_good_for_the_end_alone(self):
        for kind, good, least in NAMED_KINDS:
            self.refuses(kind, good, "name", None)
            self.refuses(kind, good, "start", None)
            self.assertIs(kind(**good).end, None)

    def test_what_is_no_whole_number(self):
        for kind, good, least in KINDS:
            for part in least:
                for thing in NO_WHOLES:
                    self.refuses(kind, good, part, thing)

    def test_a_number_less_than_told(self):
        for kind, good, least in KINDS:
            for part in least:
                for thing in [least[part] - 1, -1, -(10 ** 12)]:
                    self.refuses(kind, good, part, thing)

    def test_several_faults_at_once(self):
        with self.assertRaises(NoDoor):
            Beat("", None, 5, "x", 0, -1)


class Taken(unittest.TestCase):
    def test_the_good_ones(self):
        for kind, good, least in KINDS:
            self.assertEqual(kind(**good).name, "a")

    def test_each_number_at_its_least(self):
        for kind, good, least in KINDS:
            for part in least:
                self.assertEqual(kind(**{**good, part: least[part]}).name, "a")
            self.assertEqual(kind(**{**good, **least}).name, "a")

    def test_each_number_very_great(self):
        for kind, good, least in KINDS:
            for part in least:
                self.assertEqual(kind(**{**good, part: 10 ** 14}).name, "a")

    def test_names_of_one_and_eight_letters(self):
        for kind, good, least in NAMED_KINDS:
            for name in ["z", "abcdefgh"]:
                for part in ["name", "start", "end"]:
                    self.assertEqual(vars(kind(**{**good, part: name}))[part], name)

    def test_one_name_for_all_three(self):
        for kind, good, least in NAMED_KINDS:
            door = kind(**{**good, "name": "q", "start": "q", "end": "q"})
            self.assertEqual((door.name, door.start, door.end), ("q", "q", "q"))


if __name__ == "__main__":
    unittest.main()
