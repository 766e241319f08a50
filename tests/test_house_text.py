import unittest

from firstout.doors import Beat, Door, Marked, Shut, Since, Told, Until, Wider
from firstout.errors import NoText
from firstout.first import best_cuts, first_out
from firstout.house import House
from firstout.kept import house_text, read_house
from firstout.walks import walks
from houses import GREAT, houses_with_words, large_house, refused, told_of, yard_house, yard_rows


def each_kind_house():
    doors = [Door("door", "b", "a", 2), Since("since", "a", None, 3, 4), Until("until", "b", "b", 0, 5), Beat("beat", "a", "b", 1, 2, 3),
             Marked("marked", "b", None, 6, 7), Shut(Door("shut", "a"), 0), Wider(Shut(Beat("wider", "a", None, 1, 2), 3), 4, 5)]
    return House([("b", 9), ("a", 7), ("c", 0)], doors, [("a", 2), ("b", 1), ("a", 3), ("c", 0)], 12, 3)


EACH_KIND = """turns 3 12
room b 9
room a 7
room c 0
way door door b a 2
way since since a - 3 4
way until until b b 0 5
way beat beat a b 1 2 3
way marked marked b - 6 7
way shut 0 door shut a - 1
way wider 4 5 shut 3 beat wider a - 1 2 0
people b 1
people a 5"""


class HouseText(unittest.TestCase):
    def test_of_an_ordinary_house(self):
        self.assertEqual(house_text(yard_house()), "\n".join(yard_rows()))

    def test_of_doors_of_each_kind_and_of_rooms_as_they_come(self):
        self.assertEqual(house_text(each_kind_house()), EACH_KIND)

    def test_without_rooms_doors_or_people(self):
        self.assertEqual(house_text(House([], [], [], 0)), "turns 0 0")
        self.assertEqual(house_text(House([], [], [], 7, 5)), "turns 5 7")
        self.assertEqual(house_text(House([("a", 3)], [], [], 1)), "turns 0 1\nroom a 3")
        self.assertEqual(house_text(House([("a", 3)], [], [("a", 0)], 1)), "turns 0 1\nroom a 3")
        self.assertEqual(house_text(House([("a", 3)], [Door("d", "a")], [], 1)), "turns 0 1\nroom a 3\nway door d a - 1")
        self.assertEqual(house_text(House([("a", 3)], [], [("a", 3)], 1)), "turns 0 1\nroom a 3\npeople a 3")

    def test_of_a_room_and_a_door_of_one_name(self):
        house = House([("a", 1)], [Door("a", "a", "a", 2)], [("a", 1)], 3)
        self.assertEqual(house_text(house), "turns 0 3\nroom a 1\nway door a a a 2\npeople a 1")

    def test_of_great_numbers(self):
        great = 10 ** 14 - 1
        house = House([("a", great)], [Door("d", "a", None, great)], [("a", great)], GREAT + 20, GREAT)
        self.assertEqual(house_text(house), "turns 100000000000 100000000020\nroom a 99999999999999\n"
                                            "way door d a - 99999999999999\npeople a 99999999999999")

    def test_rows_of_people_add_up(self):
        house = House([("a", 5), ("b", 5)], [], [("b", 2), ("a", 1), ("b", 1), ("b", 0)], 1)
        self.assertEqual(house_text(house), "turns 0 1\nroom a 5\nroom b 5\npeople a 1\npeople b 3")

    def test_a_room_whose_name_is_no_name(self):
        for name in ["Hall", "", "great hall", "ninechars", "a1", "-", "a\n", "a;", "A"]:
            refused(self, NoText, lambda: house_text(House([(name, 3)], [], [], 1)))
            refused(self, NoText, lambda: house_text(House([("a", 3), (name, 3), ("b", 3)], [], [(name, 1)], 1)))

    def test_a_door_without_words(self):
        told = Told("d", "a", None, lambda turn: 1)
        for door in [told, Shut(told, 3), Wider(told, 3, 4), Wider(Shut(told, 3), 3, 4)]:
            refused(self, NoText, lambda: house_text(House([("a", 3)], [door], [], 1)))
            refused(self, NoText, lambda: house_text(House([("a", 3)], [Door("e", "a"), door, Door("f", "a")], [], 1)))
        refused(self, NoText, lambda: house_text(large_house()))


class ReadHouse(unittest.TestCase):
    def is_the_same(self, read, house):
        self.assertIsInstance(read, House)
        self.assertEqual(told_of(read), told_of(house))
        self.assertEqual(house_text(read), house_text(house))
        for name in house.doors():
            self.assertIs(type(read.door(name)), type(house.door(name)))
            self.assertEqual(read.door(name).words(), house.door(name).words())
            self.assertEqual([read.door(name).lets(turn) for turn in range(30)],
                             [house.door(name).lets(turn) for turn in range(30)])

    def test_ordinary_ones(self):
        self.is_the_same(read_house("\n".join(yard_rows())), yard_house())
        self.is_the_same(read_house(EACH_KIND), each_kind_house())

    def test_without_rooms_doors_or_people(self):
        self.is_the_same(read_house("turns 0 0"), House([], [], [], 0))
        self.is_the_same(read_house("turns 5 7"), House([], [], [], 7, 5))
        self.is_the_same(read_house("turns 0 1\nroom a 0"), House([("a", 0)], [], [], 1))
        self.is_the_same(read_house("turns 0 1\nroom a 3\npeople a 3"), House([("a", 3)], [], [("a", 3)], 1))
        self.is_the_same(read_house("turns 0 1\nroom a 3\nway door d a - 1"), House([("a", 3)], [Door("d", "a")], [], 1))

    def test_a_house_written_is_read_to_the_same_house(self):
        for house in houses_with_words():
            read = read_house(house_text(house))
            self.is_the_same(read, house)
            self.assertEqual(first_out(read), first_out(house))
            self.assertEqual(best_cuts(read), best_cuts(house))
            self.assertEqual(walks(read, first_out(read)), walks(house, first_out(house)))

    def test_names_that_are_words_of_other_things(self):
        house = House([("room", 3), ("people", 4), ("way", 5), ("turns", 6)],
                      [Door("room", "room", "people", 2), Door("people", "way", "turns"), Door("way", "turns")],
                      [("people", 1), ("room", 2), ("turns", 3)], 4)
        self.is_the_same(read_house(house_text(house)), house)

    def test_doors_twelve_round_one_another(self):
        door = Until("d", "a", None, 2, 9)
        for step in range(6):
            door = Shut(Wider(door, step, step + 1), 12 - step)
        house = House([("a", 30)], [door], [("a", 30)], 12)
        self.is_the_same(read_house(house_text(house)), house)

    def test_rooms_and_doors_in_another_order_are_another_house(self):
        rows = ["turns 0 2", "room yard 9", "room hall 3", "way door e yard hall 4", "way door d hall - 2", "people yard 2",
                "people hall 3"]
        read = read_house("\n".join(rows))
        self.assertEqual((read.rooms(), read.doors()), (["yard", "hall"], ["e", "d"]))

    def test_asked_again_the_house_is_the_same_and_a_new_one(self):
        self.is_the_same(read_house(EACH_KIND), read_house(EACH_KIND))
        read_house(EACH_KIND).rooms().clear()
        self.is_the_same(read_house(EACH_KIND), each_kind_house())


class NoHouseRead(unittest.TestCase):
    def no_house(self, *rows):
        refused(self, NoText, lambda: read_house("\n".join(rows)))

    def test_what_is_no_text(self):
        for thing in [None, 0, True, [], yard_rows(), tuple(yard_rows()), yard_house(), {}, b"turns 0 2"]:
            refused(self, NoText, lambda: read_house(thing))

    def test_a_row_too_many(self):
        rows = yard_rows()
        for at in range(len(rows) + 1):
            for more in ["", " ", "turns 0 2", "turns 0 3", "room hall 3", "room", "way", "way ", "people", "people hall 0", "people shed 1",
                         "door f hall - 1", "keep", "x", "#", "way told f hall -", "rooms shed 3", "ways door f hall - 1"]:
                self.no_house(*rows[:at], more, *rows[at:])
        for at, row in enumerate(rows):
            self.no_house(*rows[:at], row, *rows[at:])

    def test_a_row_too_few(self):
        rows = yard_rows()
        # Without people the house is another one; without any of the rows ahead it is none.
        for at in [0, 1, 2]:
            self.no_house(*rows[:at], *rows[at + 1:])
        self.no_house("")
        self.no_house("room hall 3")

    def test_rows_in_another_order(self):
        rows = yard_rows()
        for at in [0, 2, 4, 5]:
            self.no_house(*rows[:at], rows[at + 1], rows[at], *rows[at + 2:])
        for at in range(1, len(rows)):
            self.no_house(*rows[at:], *rows[:at])
        self.no_house(*reversed(rows))

    def test_people(self):
        ahead = yard_rows()[:5]
        self.no_house(*ahead, "people hall 0")
        self.no_house(*ahead, "people hall 3", "people yard 0")
        self.no_house(*ahead, "people hall 1", "people hall 2")
        self.no_house(*ahead, "people hall 1", "people yard 1", "people hall 2")
        self.no_house(*ahead, "people yard 2", "people hall 3")
        self.assertEqual(read_house("\n".join(ahead + ["people yard 2"])).found("yard"), 2)

    def test_a_house_refused(self):
        # For each cause of point 10; a first turn below 0 is not to be written.
        self.no_house("turns 3 2")
        self.no_house("turns 1 0", "room a 3")
        self.no_house("turns -1 2")
        self.no_house("turns 0 2", "room a 3", "room a 3")
        self.no_house("turns 0 2", "room a 3", "room b 3", "room a 4", "people a 1")
        self.no_house("turns 0 2", "room a 3", "way door d a - 1", "way door d a - 1")
        self.no_house("turns 0 2", "room a 3", "way door d a - 1", "way since d a a 1 2")
        self.no_house("turns 0 2", "room a 3", "way door d b - 1")
        self.no_house("turns 0 2", "room a 3", "way door d a b 1")
        self.no_house("turns 0 2", "way door d a - 1")
        self.no_house("turns 0 2", "room a 3", "people b 1")
        self.no_house("turns 0 2", "people a 1")
        self.no_house("turns 0 2", "room a -1")
        self.no_house("turns 0 2", "room a 3", "people a -1")
        self.no_house("turns 0 2", "room a 3", "people a 4")
        self.no_house("turns 0 2", "room a 0", "people a 1")

    def test_doors_refused(self):
        for words in ["beat d a - 1 0 0", "told d a -", "door D a - 1", "door d a 1", "shut 3", "shut door d a - 1", "", "door",
                      "door d a - 1 1", " door d a - 1", "door  d a - 1", "way door d a - 1", "wider 1 door d a - 1"]:
            self.no_house("turns 0 2", "room a 3", "way " + words)

    def test_words_too_few_and_too_many(self):
        rows = yard_rows()
        for at, row in enumerate(rows):
            words = row.split(" ")
            for spoiled in [words[:-1], words[1:], words + ["1"], words + ["hall"], words + [""], [""] + words, words[:1],
                            words[:1] + [""] + words[1:], [words[0].upper()] + words[1:], [words[0] + "s"] + words[1:]]:
                self.no_house(*rows[:at], " ".join(spoiled), *rows[at + 1:])

    def test_blanks_tabs_and_line_ends(self):
        text = "\n".join(yard_rows())
        for spoiled in [text + "\n", "\n" + text, text + " ", " " + text, text.replace(" ", "  "), text.replace("\n", "\n\n"),
                        text.replace("\n", " \n"), text.replace("\n", "\n "), text.replace(" ", "\t"), text.replace("\n", "; "),
                        text.replace("\n", " "), text + "\t", text.replace("\n", "\n\t"), "", "\n", " "]:
            refused(self, NoText, lambda: read_house(spoiled))

    def test_bad_numbers_and_names(self):
        for bad in ["01", "00", "+1", "-1", "1.0", "", "x", "-", "1" * 61]:
            for row in [f"turns {bad} 2", f"turns 0 {bad}"]:
                self.no_house(row)
            self.no_house("turns 0 2", f"room a {bad}")
            self.no_house("turns 0 2", "room a 3", f"people a {bad}")
            self.no_house("turns 0 2", "room a 3", f"way door d a - {bad}")
        for bad in ["A", "ninechars", "a1", "-", "", "1"]:
            self.no_house("turns 0 2", f"room {bad} 3")
            self.no_house("turns 0 2", f"room {bad} 3", f"people {bad} 1")
            self.no_house("turns 0 2", "room a 3", f"people {bad} 1")


if __name__ == "__main__":
    unittest.main()
