import unittest

from firstout.desk import Desk
from firstout.errors import NoHouse, NoRow
from houses import all_answers, desk_told, refused, yard_house, yard_rows

HOUSE = "house " + "; ".join(yard_rows())
GOOD = [
    HOUSE, "house turns 0 0", "plan", "out 1", "cut 1", "bound 1", "bound 1 hall 0", "bound 2 hall 0 yard 1", "all", "lost", "walks",
    "anew 1", "shut d 1", "wider d 1 2", "found yard 3", "keep",
]
NUMBERS = ["01", "00", "-1", "+1", "1.0", "x", "", "-", "1" * 61, "1\n", "1,", "1;"]
NAMES = ["D", "ninechars", "d1", "", "-", "1", "d\n", "d;"]


def spoiled_rows():
    rows = ["", " ", "  ", "\n", "\t", ";", "; ", "x", "rows", "help", "Plan", "PLAN", "plans", "pla", "none", "turns 0 2", "room hall 3",
            "people hall 3", "way door d hall - 2", "door d hall - 2", "joined", "signs hall 0", "0 d 2"]
    for row in GOOD:
        words = row.split(" ")
        rows += [row + " ", " " + row, row + "\n", "\n" + row, row + "\t", row + ";", row + "; ", row.upper(), row + " d", row + " 1 d",
                 row.replace(" ", "  ", 1) + ("  " if len(words) == 1 else ""), row + "  1",
                 " ".join(words[:-1] + ["", words[-1]]), " ".join(words[:-1])]
        if not row.startswith("bound") and words[0] != "house":
            rows += [row + " 1", row + " hall 1"]
    for bad in NUMBERS:
        rows += [f"out {bad}", f"cut {bad}", f"bound {bad}", f"bound 1 hall {bad}", f"bound {bad} hall 1", f"bound 1 hall 0 yard {bad}",
                 f"anew {bad}", f"shut d {bad}", f"wider d {bad} 2", f"wider d 1 {bad}", f"found hall {bad}"]
    for bad in NAMES:
        rows += [f"bound 1 {bad} 0", f"bound 1 hall 0 {bad} 1", f"shut {bad} 1", f"wider {bad} 1 2", f"found {bad} 1"]
    return rows + [
        "out", "cut", "bound", "bound hall 0", "bound 1 hall", "bound 1 hall 0 yard", "bound 1 0 hall", "bound 1 2", "anew", "anew d",
        "shut", "shut d", "shut 1", "shut 1 d", "shut 1 door d hall - 2", "wider", "wider d", "wider d 1", "wider 1 2 d", "found",
        "found hall", "found 1", "found 1 hall", "found hall 1 yard 1", "out 1 2", "cut 0 1", "anew 1 shut d 1", "keep plan", "plan 0",
        "out 1; out 2", "plan; plan", "door e hall - 1",
    ]


def spoiled_houses():
    rows = yard_rows()
    texts = [
        "house", "house ", "house;", "house ; ", "house; ", "houses turns 0 2", "house turns 0 2;", "house turns 0 2; ",
        "house; turns 0 2", "house ; turns 0 2", "house  turns 0 2", "houseturns 0 2", "house house turns 0 2", "house turns 0 2;room a 1",
        "house turns 0 2 ;room a 1", "house turns 0 2 ; room a 1", "house turns 0 2;  room a 1", "house turns 0 2; ; room a 1",
        "house turns 0 2\nroom a 1", "house turns 0 2;\nroom a 1", "house turns 0 2; room a 1\nway door d a - 1", "house\nturns 0 2",
        "house turns 0 2 room a 1", "house turns 0 2, room a 1", "house room a 1", "house turns 0 2; plan", "house turns 0",
        "house turns 0 2 4", "house turns 00 2", "house turns 0 -2", "house turns 3 2", "house turns 0 2; room a 1; room a 1",
        "house turns 0 2; room a 1; people a 2", "house turns 0 2; room a 1; people a 0", "house turns 0 2; room a 1; people b 1",
        "house turns 0 2; room a 1; way door d b - 1", "house turns 0 2; room a 1; way told d a -",
        "house turns 0 2; room a 1; way beat d a - 1 0 0", "house turns 0 2; room a 1; way door d a - 1; way door d a - 1",
        "house turns 0 2; room A 1", "house turns 0 2; room a 3; people a 1; people a 1",
        "house turns 0 2; room a 1; door d a - 1", "house turns 0 2; room a 1; way shut 3",
        "house " + "\n".join(rows), "house " + ";".join(rows), "house " + " ".join(rows), "house " + "; ".join(reversed(rows)),
    ]
    for at in range(len(rows) + 1):
        texts += ["house " + "; ".join(rows[:at] + [more] + rows[at:]) for more in ["", "x", "turns 0 2", "people hall 0"]]
    return texts


class NoSuchRow(unittest.TestCase):
    def test_ahead_of_any_house(self):
        for row in spoiled_rows() + spoiled_houses():
            refused(self, NoRow, lambda: Desk().say(row))

    def test_with_a_house(self):
        desk = desk_told(yard_rows())
        told = all_answers(desk, yard_house())
        for row in spoiled_rows() + spoiled_houses():
            refused(self, NoRow, lambda: desk.say(row))
        self.assertEqual(all_answers(desk, yard_house()), told)

    def test_what_is_no_text(self):
        for desk in [Desk(), desk_told(yard_rows())]:
            for thing in [None, 0, 5, True, [], ["plan"], ("plan",), {}, b"plan", yard_house()]:
                refused(self, NoRow, lambda: desk.say(thing))

    def test_behind_each_refusal_the_desk_answers_as_ahead_of_it(self):
        desk = desk_told(yard_rows())
        kept = desk.say("keep")
        for row in spoiled_rows() + spoiled_houses():
            refused(self, NoRow, lambda: desk.say(row))
            self.assertEqual(desk.say("keep"), kept)

    def test_the_rows_that_are_good(self):
        for row in GOOD:
            self.assertIsInstance(desk_told(yard_rows()).say(row), list)


class NoHouseYet(unittest.TestCase):
    def test_each_row_but_house(self):
        desk = Desk()
        for row in GOOD:
            if not row.startswith("house"):
                refused(self, NoHouse, lambda: desk.say(row))
        desk.say("house turns 0 0")
        self.assertEqual(desk.say("plan"), [])

    def test_turns_doors_and_rooms_are_asked_later(self):
        for row in ["out 99", "cut 99999999999999", "bound 99", "bound 99 hall 99", "anew 99", "shut nodoor 99", "wider nodoor 9 9",
                    "found noroom 99", "shut d 0", "wider d 0 0", "found hall 0"]:
            refused(self, NoHouse, lambda: Desk().say(row))

    def test_behind_a_house_that_was_refused_there_is_none_yet(self):
        desk = Desk()
        for row in spoiled_houses():
            refused(self, NoRow, lambda: desk.say(row))
            refused(self, NoHouse, lambda: desk.say("keep"))

    def test_each_desk_has_a_house_of_its_own(self):
        desk_told(yard_rows())
        refused(self, NoHouse, lambda: Desk().say("plan"))


class NoSuchTurn(unittest.TestCase):
    def test_below_first_and_above_last(self):
        desk = desk_told(["turns 3 5"] + yard_rows()[1:])
        for row in ["out", "cut", "bound"]:
            for turn in [0, 1, 2, 6, 7, 99999999999999]:
                refused(self, NoRow, lambda: desk.say(f"{row} {turn}"))
            for turn in [3, 4, 5]:
                self.assertIsInstance(desk.say(f"{row} {turn}"), list)

    def test_the_first_turn_of_bound_alone(self):
        desk = desk_told(["turns 3 5"] + yard_rows()[1:])
        for turn in [0, 2, 6, 9]:
            refused(self, NoRow, lambda: desk.say(f"bound {turn} hall 3"))
            refused(self, NoRow, lambda: desk.say(f"bound {turn} hall 3 yard 4"))
            self.assertEqual(desk.say(f"bound 5 hall {turn}"), desk.say("bound 5"))

    def test_in_a_house_of_one_turn(self):
        desk = desk_told(["turns 4 4"])
        for row in ["out", "cut", "bound"]:
            refused(self, NoRow, lambda: desk.say(f"{row} 3"))
            refused(self, NoRow, lambda: desk.say(f"{row} 5"))
        self.assertEqual([desk.say("out 4"), desk.say("bound 4"), desk.say("cut 4")], [["0"], ["0"], []])

    def test_behind_anew_the_turns_ahead_are_gone(self):
        desk = desk_told(yard_rows())
        desk.say("out 0")
        desk.say("anew 1")
        for row in ["out", "cut", "bound"]:
            refused(self, NoRow, lambda: desk.say(f"{row} 0"))
            desk.say(f"{row} 1")


if __name__ == "__main__":
    unittest.main()
