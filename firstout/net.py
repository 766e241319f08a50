"""The net of a house: its rooms at each turn, and as many people sent through it as can be out at each turn.

The turns are gone through in their order. At each of them as many people more are sent out as can be, and those that
were sent ahead are only sent round, never back: so out by each turn are as many as can be, by one and the same plan.
The pairs to which one more person could still be sent then are a cut that shows it.
"""

from firstout.plans import as_told


class Net:
    # Behind each arc stands its way back, so that what was sent can be taken back: of arc k it is k ^ 1.
    def __init__(self):
        self.targets = []
        self.spare = []
        self.arcs = []

    def new_node(self):
        self.arcs.append([])
        return len(self.arcs) - 1

    def new_arc(self, start, target, most):
        arc = len(self.targets)
        self.targets.extend([target, start])
        self.spare.extend([most, 0])
        self.arcs[start].append(arc)
        self.arcs[target].append(arc + 1)
        return arc

    def sent(self, arc):
        return self.spare[arc + 1]

    # For each node to which more can be sent, the arc by which it is reached first; None for the source.
    def ways_from(self, source):
        ways = {source: None}
        reached = [source]
        at = 0
        while at < len(reached):
            node = reached[at]
            for arc in self.arcs[node]:
                target = self.targets[arc]
                if self.spare[arc] > 0 and target not in ways:
                    ways[target] = arc
                    reached.append(target)
            at += 1
        return ways

    def path_to(self, ways, node):
        path = []
        arc = ways[node]
        while arc is not None:
            path.append(arc)
            arc = ways[self.targets[arc ^ 1]]
        return path

    def send_along(self, path):
        number = min([self.spare[arc] for arc in path])
        for arc in path:
            self.spare[arc] -= number
            self.spare[arc ^ 1] += number
        return number

    # Each time by a shortest path: so the number of paths doesn't hang on how many people there are.
    def send_all(self, source, sink):
        number = 0
        ways = self.ways_from(source)
        while sink in ways:
            number += self.send_along(self.path_to(ways, sink))
            ways = self.ways_from(source)
        return number


class HouseNet:
    # It has grown up to turn. outs has, for each turn ahead of this one, how many go out at that turn; cuts has, for
    # each turn from first up to this one, a cut whose bound is just how many are out by then.
    def __init__(self, house):
        self.house = house
        self.turn = house.first
        self.outs = []
        self.cuts = [[]]
        self.net = Net()
        self.source = self.net.new_node()
        self.pair_nodes = {}
        self.door_arcs = {}
        # All people there are: a way for so many is as good as one without a bound.
        self.plenty = house.total()
        for room in house.rooms():
            node = self.net.new_node()
            self.net.new_arc(self.source, node, house.found(room))
            self.pair_nodes[(room, self.turn)] = node

    def now_in(self, room):
        return self.pair_nodes[(room, self.turn)]

    def add_door(self, door, target):
        number = self.house.lets(door.name, self.turn)
        self.door_arcs[(self.turn, door.name)] = self.net.new_arc(self.now_in(door.start), target, number)

    def send_out(self):
        outside = self.net.new_node()
        for name in self.house.doors():
            door = self.house.door(name)
            if door.is_exit():
                self.add_door(door, outside)
        return self.net.send_all(self.source, outside)

    def reached_pairs(self):
        ways = self.net.ways_from(self.source)
        return sorted([pair for pair, node in self.pair_nodes.items() if node in ways])

    # Who stays in a room and who comes into it meet in one node, behind which stands what the room holds.
    def new_entries(self):
        entries = {}
        for room in self.house.rooms():
            entries[room] = self.net.new_node()
            self.net.new_arc(self.now_in(room), entries[room], self.plenty)
        return entries

    # All who can be out at this turn are sent ahead of growing: by what comes later nobody is out at this one.
    def go_on(self):
        self.outs.append(self.send_out())
        self.cuts.append(self.reached_pairs())
        entries = self.new_entries()
        for name in self.house.doors():
            door = self.house.door(name)
            if not door.is_exit():
                self.add_door(door, entries[door.end])
        self.turn += 1
        for room in self.house.rooms():
            node = self.net.new_node()
            self.net.new_arc(entries[room], node, self.house.holds(room))
            self.pair_nodes[(room, self.turn)] = node

    # Who isn't out needs room at each turn, too, so everybody else is sent to some room at the last turn.
    def keep_others(self):
        inside = self.net.new_node()
        for room in self.house.rooms():
            self.net.new_arc(self.now_in(room), inside, self.plenty)
        self.net.send_all(self.source, inside)

    # What was sent, as a plan.
    def rows(self):
        return as_told([(place[0], place[1], self.net.sent(arc)) for place, arc in self.door_arcs.items()])


def filled_net(house):
    net = HouseNet(house)
    while net.turn < house.last:
        net.go_on()
    net.keep_others()
    return net
