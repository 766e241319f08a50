import unittest

from firstout.net import HouseNet, Net, filled_net
from houses import told_of, yard_house


class ANet(unittest.TestCase):
    def test_sends_as_many_as_can_be_also_by_taking_back(self):
        # The shortest path goes through the arc between; the best way doesn't use it.
        net = Net()
        nodes = [net.new_node() for node in range(6)]
        arcs = [net.new_arc(nodes[start], nodes[target], 1)
                for start, target in [(0, 1), (1, 2), (2, 5), (0, 3), (3, 2), (1, 4), (4, 5)]]
        self.assertEqual(net.send_all(nodes[0], nodes[5]), 2)
        self.assertEqual([net.sent(arc) for arc in arcs], [1, 0, 1, 1, 1, 1, 1])
        self.assertEqual(net.send_all(nodes[0], nodes[5]), 0)

    def test_tells_which_nodes_can_still_be_reached(self):
        net = Net()
        nodes = [net.new_node() for node in range(4)]
        for at, most in enumerate([5, 2, 7]):
            net.new_arc(nodes[at], nodes[at + 1], most)
        self.assertEqual(net.send_all(nodes[0], nodes[3]), 2)
        self.assertEqual(sorted(net.ways_from(nodes[0])), nodes[:2])


class TheNetOfAHouse(unittest.TestCase):
    def test_tells_how_many_go_out_at_each_turn(self):
        self.assertEqual(filled_net(yard_house(4)).outs, [2, 2, 1, 0])
        self.assertEqual(filled_net(yard_house(0)).outs, [])

    def test_the_house_tells_as_ahead(self):
        house = yard_house(3)
        before = told_of(house)
        net = HouseNet(house)
        net.go_on()
        filled_net(house)
        self.assertEqual(told_of(house), before)


if __name__ == "__main__":
    unittest.main()
