import unittest

from firstout.errors import NoText
from firstout.wholes import is_whole
from firstout.words import read_whole
from houses import refused

NO_TEXTS = [5, 0, -1, None, True, [], ["5"], ("5",), {"5": 5}, 5.0, b"5"]


class ReadWhole(unittest.TestCase):
    def test_ordinary_numbers(self):
        for text, number in [("1", 1), ("7", 7), ("10", 10), ("42", 42), ("100", 100), ("99999999999999", 10 ** 14 - 1)]:
            self.assertEqual(read_whole(text), number)
            self.assertTrue(is_whole(read_whole(text)))

    def test_each_figure(self):
        for number, text in enumerate("0123456789"):
            self.assertEqual(read_whole(text), number)
            self.assertEqual(read_whole("4" + text), 40 + number)

    def test_nought(self):
        self.assertEqual(read_whole("0"), 0)
        self.assertTrue(is_whole(read_whole("0")))

    def test_up_to_sixty_figures(self):
        for figures in range(1, 61):
            self.assertEqual(read_whole("9" * figures), 10 ** figures - 1)
            self.assertEqual(read_whole("1" + "0" * (figures - 1)), 10 ** (figures - 1))


class NoWhole(unittest.TestCase):
    def test_more_than_sixty_figures(self):
        for figures in [61, 62, 100, 5000]:
            for figure in "19":
                refused(self, NoText, lambda: read_whole(figure * figures))

    def test_a_nought_ahead(self):
        for text in ["00", "01", "007", "000", "0" * 60, "0" * 59 + "1", "0" * 61]:
            refused(self, NoText, lambda: read_whole(text))

    def test_signs_that_are_no_figures(self):
        for text in ["+1", "-1", "-0", "+0", "1-", "1+1", "--1", "-", "+", "1.0", "1.", ".5", ".", "1,000", "1_000", "_1",
                     "1e3", "0x1", "0b1", "1L", "a", "one", "none", "/", ":", "1/", "1:", "1;", "~"]:
            refused(self, NoText, lambda: read_whole(text))

    def test_blanks_tabs_and_line_ends(self):
        for text in ["", " ", " 1", "1 ", "1 2", "1  2", "\t1", "1\t", "1\n", "\n1", "\n", "1\n2", "\t", "0\n", "0 "]:
            refused(self, NoText, lambda: read_whole(text))

    def test_what_is_no_text(self):
        for thing in NO_TEXTS:
            refused(self, NoText, lambda: read_whole(thing))


if __name__ == "__main__":
    unittest.main()
