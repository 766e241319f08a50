"""Planned anew: the house from a turn on, as things have happened, and plans put one behind the other."""

from firstout.doors import Shut, Wider
from firstout.errors import NoTurn, Unknown
from firstout.house import House
from firstout.plans import need_lawful, there


def place_of(doors, name):
    names = [door.name for door in doors]
    if name not in names:
        raise Unknown(name)
    return names.index(name)


def changed_door(door, happening):
    if happening[0] == "shut":
        return Shut(door, happening[2])
    return Wider(door, happening[2], happening[3])


def doors_after(doors, happening):
    if happening[0] == "found":
        return doors
    if happening[0] == "door":
        return doors + [happening[1]]
    place = place_of(doors, happening[1])
    return doors[:place] + [changed_door(doors[place], happening)] + doors[place + 1:]


def anew(house, plan, turn, happenings=None):
    need_lawful(house, plan)
    if turn < house.first or turn > house.last:
        raise NoTurn("the house has no such turn")
    happened = [] if happenings is None else happenings
    doors = [house.door(name) for name in house.doors()]
    for happening in happened:
        doors = doors_after(doors, happening)
    inside = there(house, plan)
    people = [(room, inside[(room, turn)]) for room in house.rooms()]
    people = people + [(happening[1], happening[2]) for happening in happened if happening[0] == "found"]
    return House([(room, house.holds(room)) for room in house.rooms()], doors, people, house.last, turn)


def onward(plan, turn, later):
    return sorted([row for row in plan if row[0] < turn] + later)
