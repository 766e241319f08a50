import unittest

from firstout.doors import is_name

# Beside great letters, figures and blanks: the signs next to a and z, and
# small letters and line ends that only Python takes for such.
OTHER_SIGNS = ["A", "M", "Z", "0", "5", "9", " ", "\n", "\r", "\t", "\v", "\0", "-", "_", ".", ";", "`", "{", "~", "@",
               "\u00e9", "\u00df", "\u00aa", "\u0131", "\u03b1", "\uff41", "\u2028"]


class Names(unittest.TestCase):
    def test_one_to_eight_small_letters(self):
        for thing in ["a", "m", "z", "az", "hall", "aaaaaaa", "abcdefgh", "stuvwxyz", "zzzzzzzz"]:
            self.assertIs(is_name(thing), True, thing)

    def test_each_small_letter(self):
        for letter in "abcdefghijklmnopqrstuvwxyz":
            self.assertIs(is_name(letter), True, letter)

    def test_each_length(self):
        for length in range(30):
            self.assertIs(is_name("q" * length), 1 <= length <= 8, length)

    def test_another_sign_wherever_it_stands(self):
        for sign in OTHER_SIGNS:
            for thing in [sign, sign + "all", "ha" + sign + "ll", "hall" + sign, sign + "abcdefg", "abcdefg" + sign,
                          "abcdefgh" + sign]:
                self.assertIs(is_name(thing), False, repr(thing))

    def test_what_is_no_text(self):
        things = [None, True, False, 0, 1, 7, 1.5, b"a", ["a"], [], ("a",), (), {"a": 1}, {}, {"a"}, object(), str]
        for thing in things:
            self.assertIs(is_name(thing), False, thing)


if __name__ == "__main__":
    unittest.main()
