import unittest

from firstout.wholes import is_whole


class Wholes(unittest.TestCase):
    def test_whole_numbers(self):
        for thing in [0, 1, -1, 2, 7, -99, 10 ** 12, 10 ** 400, -(10 ** 400), 10 ** 5000]:
            self.assertIs(is_whole(thing), True)

    def test_truths_are_none(self):
        self.assertIs(is_whole(True), False)
        self.assertIs(is_whole(False), False)

    def test_things_of_other_kinds_are_none(self):
        things = [None, "", "0", "1", "-1", "a", "True", b"1", [], [1], (), (1,), {}, {1: 1}, {1}, 0.0, 1.0, 1.5,
                  1j, int, object(), is_whole]
        for thing in things:
            self.assertIs(is_whole(thing), False, thing)


if __name__ == "__main__":
    unittest.main()
