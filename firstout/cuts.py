"""Cuts: how many can be out by a turn at most, shown by pairs of rooms and turns."""


def found_beyond(house, kept):
    return sum([house.found(room) for room in house.rooms() if (room, house.first) not in kept])


def let_in(house, kept, room, turn):
    starts = [(house.door(name).start, name) for name in house.into(room)]
    return sum([house.lets(name, turn) for start, name in starts if (start, turn) in kept])


# The most who are within the cut at this turn and in the room, beyond the cut, at the next one.
def going_beyond(house, kept, room, turn):
    if (room, turn + 1) in kept:
        return 0
    if (room, turn) in kept:
        return house.holds(room)
    return min(house.holds(room), let_in(house, kept, room, turn))


def let_out(house, kept, turn):
    doors = [house.door(name) for name in house.doors()]
    exits = [door for door in doors if door.is_exit()]
    return sum([house.lets(door.name, turn) for door in exits if (door.start, turn) in kept])


def bound(house, cut, turn):
    if turn == house.first:
        return 0
    kept = {}
    for room, at in cut:
        kept[(room, at)] = True
    number = found_beyond(house, kept)
    for at in range(house.first, turn - 1):
        number += sum([going_beyond(house, kept, room, at) for room in house.rooms()])
    for at in range(house.first, turn):
        number += let_out(house, kept, at)
    return number
