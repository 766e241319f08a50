import unittest

from firstout.errors import NoDoor, NoHouse, NoPlan, NoRoom, NoRow, NoText, NoTurn, OutError, Twice, Unknown

REFUSALS = [NoDoor, NoHouse, NoPlan, NoTurn, NoText, NoRow, Twice, NoRoom, Unknown]


class Errors(unittest.TestCase):
    def test_any_refusal_is_a_value_error(self):
        self.assertTrue(issubclass(OutError, ValueError))

    def test_each_stands_under_out_error_and_is_another_class(self):
        for error in REFUSALS:
            self.assertTrue(issubclass(error, OutError), error)
            self.assertNotEqual(error, OutError)

    def test_none_stands_under_another_one(self):
        for one in REFUSALS:
            for other in REFUSALS:
                if one is not other:
                    self.assertFalse(issubclass(one, other), (one, other))

    def test_the_named_ones_have_the_name(self):
        for error in [Twice, NoRoom, Unknown]:
            self.assertEqual(error("hall").name, "hall")
            with self.assertRaises(OutError) as caught:
                raise error("yard")
            self.assertEqual(caught.exception.name, "yard")


if __name__ == "__main__":
    unittest.main()
