"""A house: its rooms and doors, the people in it, its first and its last turn."""

from firstout.errors import NoHouse, NoRoom, NoTurn, Twice, Unknown


def need_turns(first, last):
    if first < 0:
        raise NoTurn("the first turn is below 0")
    if last < first:
        raise NoTurn("the last turn is below the first one")


def need_each_once(names):
    seen = {}
    for name in names:
        if name in seen:
            raise Twice(name)
        seen[name] = True


def rooms_spoken_of(doors, people):
    names = []
    for door in doors:
        names.append(door.start)
        if not door.is_exit():
            names.append(door.end)
    return names + [room for room, number in people]


def need_rooms(names, sizes):
    for name in names:
        if name not in sizes:
            raise NoRoom(name)


def added_people(sizes, people):
    inside = {}
    for room in sizes:
        inside[room] = 0
    for room, number in people:
        inside[room] += number
    return inside


def need_space(sizes, people):
    # A row below 0 is no good even where the rows of its room add up to enough.
    if any([number < 0 for room, number in people]):
        raise NoHouse("a row of people is below 0")
    inside = added_people(sizes, people)
    # No row is below 0 here, so this finds each room that holds less than 0, too.
    if any([inside[room] > sizes[room] for room in sizes]):
        raise NoHouse("more are in a room than it holds")


class House:
    def __init__(self, rooms, doors, people, last, first=0):
        need_turns(first, last)
        need_each_once([name for name, size in rooms])
        need_each_once([door.name for door in doors])
        sizes = dict(rooms)
        need_rooms(rooms_spoken_of(doors, people), sizes)
        need_space(sizes, people)
        self.first = first
        self.last = last
        self.sizes = sizes
        self.people = added_people(sizes, people)
        self.named_doors = {}
        for door in doors:
            self.named_doors[door.name] = door

    def rooms(self):
        return list(self.sizes)

    def doors(self):
        return list(self.named_doors)

    def need_room(self, room):
        need_rooms([room], self.sizes)

    def holds(self, room):
        self.need_room(room)
        return self.sizes[room]

    def found(self, room):
        self.need_room(room)
        return self.people[room]

    def into(self, room):
        self.need_room(room)
        return [name for name, door in self.named_doors.items() if door.end == room]

    def from_room(self, room):
        self.need_room(room)
        return [name for name, door in self.named_doors.items() if door.start == room]

    def door(self, name):
        if name not in self.named_doors:
            raise Unknown(name)
        return self.named_doors[name]

    def lets(self, name, turn):
        door = self.door(name)
        if turn < self.first or turn >= self.last:
            return 0
        return door.lets(turn)

    def total(self):
        return sum(self.people.values())

    def pairs(self):
        pairs = []
        for turn in range(self.first, self.last + 1):
            pairs.extend([(room, turn) for room in self.sizes])
        return pairs
