import random
import unittest

from firstout.cuts import bound
from firstout.doors import Beat, Door, Since, Told, Until
from firstout.house import House
from firstout.net import HouseNet, Net, filled_net
from firstout.plans import faults, out_by
from houses import GREAT, hall_house, large_house, lawful_plans, most_out, small_houses, yard_house


def drawn_door(draw, name, start, end, wide):
    kind = draw.randrange(5)
    if kind == 0:
        return Door(name, start, end, wide)
    if kind == 1:
        return Since(name, start, end, wide, draw.randrange(12))
    if kind == 2:
        return Until(name, start, end, wide, draw.randrange(20))
    if kind == 3:
        return Beat(name, start, end, wide, draw.randrange(1, 4), draw.randrange(4))
    turned = draw.randrange(1000)
    return Told(name, start, end, lambda turn: (turn * 7919 + turned) % (wide + 1))


def drawn_house(seed, rooms, doors, last, size):
    """A house drawn by a seed, the same at each run."""
    draw = random.Random(seed)
    names = "abcdefgh"[:rooms]
    sizes = [(name, draw.randrange(size)) for name in names]
    ends = [None] + [draw.choice(list(names) + [None]) for door in range(doors - 1)]
    drawn = [drawn_door(draw, "abcdefghijklmnop"[at], draw.choice(names), end, draw.randrange(size))
             for at, end in enumerate(ends)]
    return House(sizes, drawn, [(name, draw.randrange(holds + 1)) for name, holds in sizes], last)


class ANet(unittest.TestCase):
    def test_sends_as_many_as_can_be_also_by_taking_back(self):
        # The shortest path goes through the arc between; the best way doesn't use it.
        net = Net()
        nodes = [net.new_node() for node in range(6)]
        arcs = [net.new_arc(nodes[start], nodes[target], 1)
                for start, target in [(0, 1), (1, 2), (2, 5), (0, 3), (3, 2), (1, 4), (4, 5)]]
        self.assertEqual(net.send_all(nodes[0], nodes[5]), 2)
        self.assertEqual([net.sent(arc) for arc in arcs], [1, 0, 1, 1, 1, 1, 1])
        self.assertEqual(net.send_all(nodes[0], nodes[5]), 0)

    def test_tells_which_nodes_can_still_be_reached(self):
        net = Net()
        nodes = [net.new_node() for node in range(4)]
        for at, most in enumerate([5, 2, 7]):
            net.new_arc(nodes[at], nodes[at + 1], most)
        self.assertEqual(net.send_all(nodes[0], nodes[3]), 2)
        self.assertEqual(sorted(net.ways_from(nodes[0])), nodes[:2])


class FirstOut(unittest.TestCase):
    def holds_for(self, house):
        net = filled_net(house)
        plan = net.rows()
        turns = list(range(house.first, house.last + 1))
        outs = [out_by(house, plan, turn) for turn in turns]
        self.assertEqual(faults(house, plan), [])
        self.assertEqual(plan, sorted(plan))
        self.assertEqual(len({row[:2] for row in plan}), len(plan))
        self.assertTrue(all(number >= 1 for turn, name, number in plan))
        self.assertEqual([sum(net.outs[:at]) for at in range(len(turns))], outs)
        self.assertEqual([bound(house, cut, turn) for turn, cut in zip(turns, net.cuts, strict=True)], outs)
        for turn, cut in zip(turns, net.cuts):
            self.assertEqual(cut, sorted(set(cut)))
            self.assertEqual([pair for pair in cut if pair not in house.pairs()], [])
        return outs

    def test_as_many_as_any_lawful_plan(self):
        for house in small_houses():
            self.assertEqual(self.holds_for(house), most_out(house, lawful_plans(house)))

    def test_as_many_as_any_lawful_plan_of_small_houses_drawn(self):
        for seed in range(60):
            house = drawn_house(seed, 2 + seed % 2, 3, 3, 3)
            self.assertEqual(self.holds_for(house), most_out(house, lawful_plans(house)), seed)

    def test_large_houses_by_their_cuts(self):
        for seed in range(30):
            self.holds_for(drawn_house(seed, 8, 16, 20, [4, 30, 10 ** 13][seed % 3]))
        for first in [0, 3, GREAT]:
            self.holds_for(large_house(first))

    def test_the_houses_of_the_document(self):
        self.assertEqual(self.holds_for(hall_house()), [0, 2, 3])
        self.assertEqual(self.holds_for(yard_house()), [0, 2, 4])
        self.assertEqual(self.holds_for(yard_house(3, GREAT)), [0, 2, 4, 5])

    def test_edges(self):
        self.assertEqual(self.holds_for(House([], [], [], 0)), [0])
        self.assertEqual(self.holds_for(House([("a", 1)], [Door("d", "a")], [("a", 1)], 4, 4)), [0])
        self.assertEqual(self.holds_for(House([("a", 0)], [Door("d", "a")], [], 2)), [0, 0, 0])

    def test_who_is_early_is_not_late_for_others(self):
        # By the near door two are out at once, or by the far one all at the end: one plan does both.
        doors = [Until("near", "a", None, 2, 1), Since("far", "b", None, 9, 2), Door("way", "a", "b", 9)]
        house = House([("a", 6), ("b", 4)], doors, [("a", 6)], 3)
        self.assertEqual(self.holds_for(house), [0, 2, 2, 6])

    def test_two_who_change_places(self):
        doors = [Door("d", "a", "b"), Door("e", "b", "a"), Since("f", "a", None, 1, 1)]
        house = House([("a", 1), ("b", 1)], doors, [("a", 1), ("b", 1)], 3)
        self.assertEqual(self.holds_for(house), [0, 0, 1, 2])

    def test_who_cannot_be_out_finds_room(self):
        # Only one can be out: were it the one of a, the one of b would be in the way.
        for names in [["a", "b"], ["b", "a"]]:
            house = House([(name, 1) for name in names], [Door("d", "a", "b"), Beat("e", "b", None, 1, 9, 1)],
                          [("a", 1), ("b", 1)], 2)
            self.assertEqual(self.holds_for(house), [0, 0, 1])
            self.assertIn(filled_net(house).rows(), lawful_plans(house))


class TheSame(unittest.TestCase):
    def test_for_two_houses_made_alike(self):
        for seed in range(8):
            one, other = [filled_net(drawn_house(seed, 6, 12, 15, 20)) for time in range(2)]
            self.assertEqual((one.rows(), one.cuts, one.outs), (other.rows(), other.cuts, other.outs))

    def test_whatever_the_kinds_of_doors_and_the_rows_of_people(self):
        rooms = [("a", 9), ("b", 5)]
        one = House(rooms, [Door("d", "a", "b", 3), Until("e", "b", None, 2, 99)], [("a", 7), ("b", 2)], 6)
        other = House(rooms, [Told("d", "a", "b", lambda turn: 3), Beat("e", "b", None, 2, 1)],
                      [("b", 1), ("a", 3), ("b", 1), ("a", 4)], 6)
        self.assertEqual(filled_net(one).rows(), filled_net(other).rows())
        self.assertEqual(filled_net(one).cuts, filled_net(other).cuts)

    def test_the_house_tells_as_ahead(self):
        house = yard_house(3)
        before = (house.rooms(), house.doors(), house.found("hall"), house.total(), house.pairs())
        net = HouseNet(house)
        net.go_on()
        filled_net(house)
        self.assertEqual((house.rooms(), house.doors(), house.found("hall"), house.total(), house.pairs()), before)


if __name__ == "__main__":
    unittest.main()
