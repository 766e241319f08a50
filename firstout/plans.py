"""Plans: who is where by them, what is wrong with them, and who is out by when."""

from firstout.errors import NoPlan


def added_up(plan):
    going = {}
    for turn, name, number in plan:
        going[(turn, name)] = going.get((turn, name), 0) + number
    return going


# Plans that say the same in other rows are told as one and the same plan.
def as_told(plan):
    return sorted([(place[0], place[1], number) for place, number in added_up(plan).items() if number > 0])


def rows_that_count(house, plan):
    doors = house.doors()
    return [row for row in plan if row[1] in doors and house.first <= row[0] < house.last]


# Leaving and coming have only pairs of which a row speaks: the others are asked with get.


def leaving(house, plan):
    numbers = {}
    for turn, name, number in rows_that_count(house, plan):
        pair = (house.door(name).start, turn)
        numbers[pair] = numbers.get(pair, 0) + number
    return numbers


def coming(house, plan):
    numbers = {}
    for turn, name, number in rows_that_count(house, plan):
        door = house.door(name)
        if not door.is_exit():
            pair = (door.end, turn)
            numbers[pair] = numbers.get(pair, 0) + number
    return numbers


def there(house, plan):
    leave = leaving(house, plan)
    come = coming(house, plan)
    inside = {}
    for room, turn in house.pairs():
        if turn == house.first:
            inside[(room, turn)] = house.found(room)
        else:
            before = (room, turn - 1)
            inside[(room, turn)] = inside[before] - leave.get(before, 0) + come.get(before, 0)
    return inside


def most_through(house, turn, name):
    if name not in house.doors():
        return 0
    return house.lets(name, turn)


def door_faults(house, plan):
    going = added_up(plan)
    return [(turn, "door", name) for turn, name in going if going[(turn, name)] > most_through(house, turn, name)]


def leave_faults(house, plan, inside):
    leave = leaving(house, plan)
    below_last = [pair for pair in house.pairs() if pair[1] < house.last]
    return [(turn, "leave", room) for room, turn in below_last if leave.get((room, turn), 0) > inside[(room, turn)]]


def full_faults(house, inside):
    return [(turn, "full", room) for room, turn in house.pairs() if inside[(room, turn)] > house.holds(room)]


def faults(house, plan):
    inside = there(house, plan)
    return sorted(door_faults(house, plan) + leave_faults(house, plan, inside) + full_faults(house, inside))


def need_lawful(house, plan):
    if len(faults(house, plan)) > 0:
        raise NoPlan("the plan has faults")


def out_by(house, plan, turn):
    rows = rows_that_count(house, plan)
    return sum([number for at, name, number in rows if at < turn and house.door(name).is_exit()])


def spent(house, plan):
    total = house.total()
    return sum([total - out_by(house, plan, turn) for turn in range(house.first, house.last)])
