import unittest

from firstout.errors import NoText
from firstout.first import first_out
from firstout.kept import plan_text, read_plan
from houses import GREAT, drawn_houses, drawn_plan, refused, small_houses

PLAN = [(0, "d", 2), (0, "e", 1), (1, "d", 2), (11, "c", 10)]
TEXT = "0 d 2\n0 e 1\n1 d 2\n11 c 10"


class PlanText(unittest.TestCase):
    def test_a_row_for_each_row(self):
        self.assertEqual(plan_text(PLAN), TEXT)
        self.assertEqual(plan_text([(3, "abcdefgh", 4)]), "3 abcdefgh 4")

    def test_the_empty_plan(self):
        self.assertEqual(plan_text([]), "")

    def test_great_numbers(self):
        self.assertEqual(plan_text([(GREAT, "d", 10 ** 14 - 1)]), "100000000000 d 99999999999999")

    def test_rows_as_they_were_handed_in(self):
        self.assertEqual(plan_text([(1, "d", 2), (0, "e", 0), (1, "d", 2)]), "1 d 2\n0 e 0\n1 d 2")

    def test_the_plan_handed_in_stays(self):
        plan = list(PLAN)
        self.assertEqual([plan_text(plan), plan_text(plan)], [TEXT, TEXT])
        self.assertEqual(plan, PLAN)


class ReadPlan(unittest.TestCase):
    def test_ordinary_ones(self):
        self.assertEqual(read_plan(TEXT), PLAN)
        self.assertEqual(read_plan("3 abcdefgh 4"), [(3, "abcdefgh", 4)])

    def test_the_empty_text(self):
        self.assertEqual(read_plan(""), [])

    def test_turns_are_sorted_as_numbers(self):
        self.assertEqual(read_plan("2 d 1\n10 d 1"), [(2, "d", 1), (10, "d", 1)])
        self.assertEqual(read_plan("9 d 5\n10 a 4\n100 a 3"), [(9, "d", 5), (10, "a", 4), (100, "a", 3)])
        refused(self, NoText, lambda: read_plan("10 d 1\n2 d 1"))

    def test_plans_told(self):
        for house in small_houses() + drawn_houses():
            for plan in [first_out(house), drawn_plan(house, 3)]:
                self.assertEqual(read_plan(plan_text(plan)), plan)

    def test_the_list_is_new(self):
        read = read_plan(TEXT)
        read.clear()
        self.assertEqual(read_plan(TEXT), PLAN)
        read = read_plan("")
        read.append((0, "d", 1))
        self.assertEqual(read_plan(""), [])


class NoPlanRead(unittest.TestCase):
    def test_what_is_no_text(self):
        for thing in [None, 0, True, [], PLAN, ["0 d 1"], (), {}, b""]:
            refused(self, NoText, lambda: read_plan(thing))

    def test_rows_that_are_not_sorted(self):
        for text in ["1 d 2\n0 d 2", "0 e 1\n0 d 2", "0 d 2\n1 d 2\n0 e 1", "3 a 1\n2 b 1", "1 b 1\n1 a 2"]:
            refused(self, NoText, lambda: read_plan(text))

    def test_a_turn_and_door_twice(self):
        for text in ["0 d 2\n0 d 2", "0 d 1\n0 d 2", "0 a 1\n0 d 2\n0 d 3\n1 d 1", "0 d 1\n0 e 1\n0 e 2"]:
            refused(self, NoText, lambda: read_plan(text))

    def test_a_number_nought(self):
        for text in ["0 d 0", "0 d 1\n1 d 0", "0 d 0\n0 d 1", "0 c 0\n0 d 1"]:
            refused(self, NoText, lambda: read_plan(text))

    def test_a_door_that_is_no_name(self):
        for bad in ["D", "ninechars", "d1", "-", "", "1", "d_e", "None"]:
            refused(self, NoText, lambda: read_plan(f"0 {bad} 1"))
            refused(self, NoText, lambda: read_plan(f"0 a 1\n1 {bad} 1"))

    def test_bad_numbers(self):
        for bad in ["-1", "+1", "01", "00", "1.0", "1_0", "x", "-", "", "1" * 61]:
            refused(self, NoText, lambda: read_plan(f"{bad} d 1"))
            refused(self, NoText, lambda: read_plan(f"0 d {bad}"))
            refused(self, NoText, lambda: read_plan(f"0 d 1\n1 d {bad}"))

    def test_empty_rows_and_line_ends(self):
        for text in ["\n", "\n\n", TEXT + "\n", "\n" + TEXT, "0 d 1\n\n1 d 1", "0 d 1\n", "0 d 1\n1 d 1\n\n"]:
            refused(self, NoText, lambda: read_plan(text))

    def test_words_too_few_too_many_and_blanks(self):
        for text in ["0", "0 d", "d 1", "0 1", "0 d 1 1", "0 d 1 d", "0 d e 1", " ", " 0 d 1", "0 d 1 ", "0  d 1", "0 d  1", "0\td\t1",
                     "0 d 1\t", "d 0 1", "0 d 1; 1 d 1", "0 d 1 1 d 1", "0 d 1 \n1 d 1", "0 d 1\n 1 d 1", "x"]:
            refused(self, NoText, lambda: read_plan(text))


if __name__ == "__main__":
    unittest.main()
