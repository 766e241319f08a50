"""Point 4, the promise over the whole, asked of a desk by its rows alone."""

import random
import unittest

from firstout.cuts import bound
from firstout.first import best_cuts, first_out
from firstout.kept import house_text, plan_text, read_house, read_plan
from firstout.plans import faults, out_by, spent
from firstout.walks import joined, walks
from houses import (GREAT, desk_told, desk_with, drawn_house, houses_with_words, is_lawful, kept_house, large_house, lawful_plans,
                    most_out, most_out_by_states, outs_of, small_houses, with_words, yard_house)


def number_of(answer):
    return int(answer[0])


def told_plan(desk):
    return read_plan("\n".join(desk.say("plan")))


def told_walks(desk):
    dealt = []
    for row in desk.say("walks"):
        words = row.split(" ")
        dealt.append((int(words[0]), words[1], [None if step == "-" else step for step in words[2:]]))
    return dealt


def gone_on(house, plan):
    """Who is in each room a turn later, people going by the plan row by row."""
    inside = {room: house.found(room) for room in house.rooms()}
    for turn, name, number in plan:
        if turn == house.first:
            door = house.door(name)
            inside[door.start] -= number
            if door.end is not None:
                inside[door.end] += number
    return inside


def drawn_happening(draw, house):
    kind = draw.choice(["shut", "wider", "found"])
    if kind == "found":
        room = draw.choice(house.rooms())
        return f"found {room} {draw.randrange(house.holds(room) - house.found(room) + 1)}"
    name, turn = draw.choice(house.doors()), draw.randrange(house.first, house.last + 1)
    return f"shut {name} {turn}" if kind == "shut" else f"wider {name} {turn} {draw.randrange(4)}"


class TheDesk(unittest.TestCase):
    def is_first_out(self, desk):
        """At each turn as many are out as the cut tells, and the walks put together are the plan."""
        house, plan = kept_house(desk), told_plan(desk)
        self.assertEqual(faults(house, plan), [])
        for turn in range(house.first, house.last + 1):
            out = out_by(house, plan, turn)
            self.assertEqual(number_of(desk.say(f"out {turn}")), out)
            cut = desk.say(f"cut {turn}")
            self.assertEqual(number_of(desk.say(" ".join([f"bound {turn}"] + cut))), out)
        self.assertEqual(joined(house, told_walks(desk)), plan)
        self.is_all_out(desk, house, plan)

    def is_all_out(self, desk, house, plan):
        outs = outs_of(house, plan)
        if outs[-1] < house.total():
            self.assertEqual(desk.say("all"), ["none"])
        else:
            self.assertEqual(desk.say("all"), [str(house.first + outs.index(house.total()))])

    def goes_on(self, desk):
        """People go by the plan for a turn, and the desk plans anew; how many went out at it."""
        house, plan = kept_house(desk), told_plan(desk)
        self.assertEqual(desk.say(f"anew {house.first + 1}"), [])
        later = kept_house(desk)
        self.assertEqual({room: later.found(room) for room in later.rooms()}, gone_on(house, plan))
        return out_by(house, plan, house.first + 1)

    def test_turn_by_turn_with_no_happening_as_many_come_to_be_out_as_before(self):
        for house in houses_with_words()[::3]:
            desk = desk_with(house)
            before = [number_of(desk.say(f"out {turn}")) for turn in range(house.first, house.last + 1)]
            out = 0
            for turn in range(house.first, house.last):
                rest = [out + number_of(desk.say(f"out {at}")) for at in range(turn, house.last + 1)]
                self.assertEqual(rest, before[turn - house.first:])
                out += self.goes_on(desk)
            self.assertEqual(out, before[-1])

    def test_turn_by_turn_with_happenings(self):
        houses = [drawn_house(seed, 2 + seed % 7, 3 + 2 * seed % 13, 6, 9) for seed in range(12)]
        for seed, house in enumerate(houses + [yard_house(8, 3), large_house(), large_house(GREAT)]):
            draw = random.Random(seed)
            desk = desk_with(with_words(house))
            out, total = 0, house.total()
            for turn in range(house.first, house.last):
                happening = drawn_happening(draw, kept_house(desk))
                self.assertEqual(desk.say(happening), [])
                total += int(happening.split(" ")[2]) if happening.startswith("found") else 0
                self.is_first_out(desk)
                out += self.goes_on(desk)
                # What was done stays, so nobody is lost or comes back.
                self.assertEqual(out + kept_house(desk).total(), total)
            self.is_first_out(desk)

    def test_with_happenings_it_is_as_many_as_any_lawful_plan_has_out(self):
        for seed in range(12):
            draw = random.Random(seed)
            desk = desk_with(with_words(drawn_house(seed, 2 + seed % 2, 4, 4, 3)))
            for turn in range(4):
                desk.say(drawn_happening(draw, kept_house(desk)))
                house = kept_house(desk)
                outs = [number_of(desk.say(f"out {at}")) for at in range(turn, 5)]
                self.assertEqual(outs, most_out_by_states(house))
                self.assertEqual(outs, outs_of(house, told_plan(desk)))
                self.goes_on(desk)

    def test_written_out(self):
        desk = desk_told(["turns 0 4", "room hall 4", "room yard 6", "way door d hall - 2", "way door e yard hall 3", "people hall 2",
                          "people yard 5"])
        self.assertEqual([desk.say(f"out {turn}") for turn in range(5)], [["0"], ["2"], ["4"], ["6"], ["7"]])
        self.assertEqual(desk.say("all"), ["4"])
        self.is_first_out(desk)
        desk.say("anew 1")
        desk.say("shut e 2")
        self.assertEqual([desk.say(f"out {turn}") for turn in range(1, 5)], [["0"], ["2"], ["4"], ["5"]])
        self.is_first_out(desk)
        desk.say("anew 2")
        desk.say("wider d 2 5")
        desk.say("found hall 1")
        self.assertEqual([desk.say(f"out {turn}") for turn in range(2, 5)], [["0"], ["4"], ["4"]])
        self.assertEqual([desk.say("all"), desk.say("lost")], [["3"], ["yard"]])
        self.is_first_out(desk)


class OverTheWhole(unittest.TestCase):
    def test_one_plan_for_all_turns_as_good_as_any_and_no_cut_less(self):
        for house in small_houses():
            plans, plan = lawful_plans(house), first_out(house)
            self.assertTrue(is_lawful(house, plan))
            self.assertEqual(outs_of(house, plan), most_out(house, plans))
            self.assertEqual(spent(house, plan), min([spent(house, other) for other in plans]))
            for turn, cut in zip(range(house.first, house.last + 1), best_cuts(house), strict=True):
                self.assertEqual(bound(house, cut, turn), out_by(house, plan, turn))

    def test_plans_through_texts_and_walks(self):
        for house in houses_with_words():
            plan = read_plan(plan_text(first_out(house)))
            read = read_house(house_text(house))
            self.assertEqual(joined(read, walks(read, plan)), first_out(house))
            self.assertEqual(house_text(read), house_text(house))


if __name__ == "__main__":
    unittest.main()
