import unittest

from firstout.cuts import bound
from firstout.desk import Desk
from firstout.doors import Door
from firstout.first import all_out, best_cuts, first_out, lost, most_by
from firstout.house import House
from firstout.kept import house_text
from firstout.walks import walks
from houses import (GREAT, all_answers, desk_told, desk_with, hall_house, houses_with_words, large_house, rows_asking, with_words, yard_house,
                    yard_rows)


class TheYardHouse(unittest.TestCase):
    """What the desk says of the house of point 17, written out."""

    def says(self, row, *answer):
        self.assertEqual(desk_told(yard_rows()).say(row), list(answer))

    def test_house(self):
        self.assertEqual(Desk().say("house " + "; ".join(yard_rows())), [])

    def test_plan(self):
        # Either one or two may come from the yard at 0, so the plan is asked of first_out.
        self.says("plan", *[f"{turn} {name} {number}" for turn, name, number in first_out(yard_house())])
        self.assertEqual(desk_with(hall_house()).say("plan"), ["0 d 2", "1 d 1"])

    def test_out(self):
        self.says("out 0", "0")
        self.says("out 1", "2")
        self.says("out 2", "4")

    def test_cut(self):
        desk = desk_told(["turns 3 4", "room hall 3", "room attic 2", "way door d hall - 2", "people hall 3", "people attic 1"])
        cut = desk.say("cut 4")
        self.assertEqual(desk.say("bound 4 " + " ".join(cut)), ["2"])
        self.assertEqual(cut, sorted(cut))
        self.assertIn("hall 3", cut)
        self.assertEqual(desk.say(" ".join(["bound 3"] + desk.say("cut 3"))), ["0"])

    def test_bound(self):
        self.says("bound 1 hall 0", "4")
        self.says("bound 1 hall 0 yard 0", "2")
        self.says("bound 1 yard 0 hall 0 yard 0", "2")
        self.says("bound 1", "5")
        self.says("bound 0", "0")
        self.says("bound 0 hall 0", "0")
        self.says("bound 2", "5")

    def test_all(self):
        self.says("all", "none")
        self.assertEqual(desk_with(hall_house()).say("all"), ["2"])
        self.assertEqual(desk_with(hall_house(7)).say("all"), ["9"])
        self.assertEqual(desk_told(["turns 3 9"]).say("all"), ["3"])

    def test_lost(self):
        self.says("lost")
        rows = ["turns 0 2", "room yard 3", "room attic 2", "room hall 1", "way door d hall - 2"]
        self.assertEqual(desk_told(rows).say("lost"), ["attic", "yard"])

    def test_walks(self):
        rows = ["turns 4 6", "room hall 3", "room attic 2", "way door d hall - 2", "people hall 3", "people attic 1"]
        self.assertEqual(sorted(desk_told(rows).say("walks")), ["1 attic - -", "1 hall - d", "2 hall d"])

    def test_walks_without_a_step(self):
        rows = ["turns 4 4", "room hall 3", "way door d hall - 2", "people hall 3"]
        self.assertEqual(desk_told(rows).say("walks"), ["3 hall"])

    def test_keep(self):
        self.says("keep", *yard_rows())


class AsTheOtherModulesAnswer(unittest.TestCase):
    def answers(self, desk, house):
        plan = first_out(house)
        self.assertEqual(desk.say("plan"), [f"{turn} {name} {number}" for turn, name, number in plan])
        self.assertEqual(desk.say("all"), ["none" if all_out(house) is None else str(all_out(house))])
        self.assertEqual(desk.say("lost"), lost(house))
        self.assertEqual(desk.say("keep"), house_text(house).split("\n"))
        self.assertEqual(desk.say("walks"), [" ".join([str(number), room] + [step or "-" for step in steps])
                                             for number, room, steps in walks(house, plan)])
        for turn, cut in zip(range(house.first, house.last + 1), best_cuts(house), strict=True):
            self.assertEqual(desk.say(f"out {turn}"), [str(most_by(house, turn))])
            self.assertEqual(desk.say(f"cut {turn}"), [f"{room} {at}" for room, at in cut])
            for some in [cut, cut[::2], house.pairs()[::3], list(reversed(cut)) + cut, []]:
                pairs = "".join([f" {room} {at}" for room, at in some])
                self.assertEqual(desk.say(f"bound {turn}{pairs}"), [str(bound(house, some, turn))])

    def test_of_many_houses(self):
        for house in houses_with_words()[::2]:
            self.answers(desk_with(house), house)

    def test_of_a_house_behind_another_one(self):
        desk = Desk()
        for house in [yard_house(), hall_house(7), House([], [], [], 3, 2), with_words(large_house(GREAT)), yard_house()]:
            self.assertEqual(desk.say("house " + "; ".join(house_text(house).split("\n"))), [])
            self.answers(desk, house)

    def test_pairs_that_the_house_has_not_are_nothing(self):
        desk = desk_told(yard_rows())
        for turn in range(3):
            for pairs in ["", " hall 0", " yard 0 hall 1"]:
                told = desk.say(f"bound {turn}{pairs}")
                for nothing in [" shed 0", " hall 3", " hall 99999999999999", " d 0", " shed 0 attic 1"]:
                    self.assertEqual(desk.say(f"bound {turn}{pairs}{nothing}"), told)
                    self.assertEqual(desk.say(f"bound {turn}{nothing}{pairs}"), told)

    def test_names_that_are_words_of_other_things(self):
        house = House([("house", 3), ("plan", 2)], [Door("none", "house", None, 2), Door("all", "plan", "house")],
                      [("house", 2), ("plan", 1)], 3)
        self.answers(desk_with(house), house)


class TheAskersOwn(unittest.TestCase):
    def test_asked_again_the_answers_are_the_same(self):
        for house in [yard_house(4), with_words(large_house())]:
            desk = desk_with(house)
            told = all_answers(desk, house)
            self.assertEqual(all_answers(desk, house), told)
            self.assertEqual(all_answers(desk_with(house), house), told)

    def test_what_the_asker_does_to_an_answer_changes_nothing(self):
        house = yard_house(4)
        desk = desk_with(house)
        told = all_answers(desk, house)
        for row in rows_asking(house):
            answer = desk.say(row)
            answer.clear()
            answer.append("shed 3")
        self.assertEqual(all_answers(desk, house), told)
        for row in ["house " + "; ".join(yard_rows()), "anew 0", "shut d 2", "wider d 1 2", "found yard 1"]:
            desk.say(row).append("d")
        self.assertEqual([desk.say("anew 0"), desk.say("shut d 2"), desk.say("found yard 0")], [[], [], []])

    def test_nothing_asked_later_changes_an_answer(self):
        house = yard_house(4)
        desk = desk_with(house)
        told = all_answers(desk, house)
        copies = [(row, list(answer)) for row, answer in told]
        for row in rows_asking(house) + ["anew 1", "shut d 2", "found hall 1", "keep", "walks", "plan"]:
            desk.say(row)
        self.assertEqual(told, copies)

    def test_desks_have_nothing_to_do_with_one_another(self):
        one, other = desk_told(yard_rows()), desk_told(yard_rows())
        told = all_answers(other, yard_house())
        one.say("shut d 0")
        one.say("found yard 2")
        one.say("anew 1")
        self.assertEqual(all_answers(other, yard_house()), told)
        self.assertNotEqual(one.say("keep"), other.say("keep"))


if __name__ == "__main__":
    unittest.main()
