"""First out: a plan by which as many as can be are out by each turn, cuts that show it, and who can't be out."""

from firstout.net import filled_net


def first_out(house):
    return filled_net(house).rows()


def best_cuts(house):
    return filled_net(house).cuts


def most_by(house, turn):
    return sum(filled_net(house).outs[:turn - house.first])


def all_out(house):
    outs = filled_net(house).outs
    for turn in range(house.first, house.last + 1):
        if sum(outs[:turn - house.first]) == house.total():
            return turn
    return None


# The door leads, at this turn, out or into a room from which one is out later. The start of it may hold nobody:
# a way may begin and stay in any room, but comes only into one that holds somebody.
def leads_on(house, door, turn, saved):
    if house.lets(door.name, turn) == 0:
        return False
    return door.is_exit() or (house.holds(door.end) > 0 and door.end in saved)


# The turns are gone through from the last one down, so saved has the rooms from which one is out, begun a turn later.
def lost(house):
    doors = [house.door(name) for name in house.doors()]
    saved = {}
    for turn in range(house.last - 1, house.first - 1, -1):
        starts = [door.start for door in doors if leads_on(house, door, turn, saved)]
        for room in starts:
            saved[room] = True
    return sorted([room for room in house.rooms() if room not in saved])
