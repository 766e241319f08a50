"""Walks: a plan dealt out to people who go together; and signs at the doors, by which a plan is followed."""

from firstout.plans import as_told, need_lawful


def signs(house, plan, room, turn):
    doors = house.from_room(room)
    rows = as_told([row for row in plan if row[0] == turn and row[1] in doors])
    return [(name, number) for at, name, number in rows]


# A group is a list of walks as far as they have come, all in one place. Of groups there is a dict by the places:
# the rooms, and None, where those are who went out, since None is the end of the doors that lead out.


def no_groups(house):
    groups = {None: []}
    for room in house.rooms():
        groups[room] = []
    return groups


def groups_at_first(house):
    groups = no_groups(house)
    for room in house.rooms():
        if house.found(room) > 0:
            groups[room].append((house.found(room), room, []))
    return groups


def somebody(group):
    return [walk for walk in group if walk[0] > 0]


# The first so many people of a group, and the others. At most one walk of it is parted, so that
# there come to be no more walks than one for each row of the plan, beside those of the beginning.
def parted(group, number):
    going = []
    others = []
    for size, room, steps in group:
        taken = min(size, number)
        number -= taken
        going.append((taken, room, steps))
        others.append((size - taken, room, steps))
    return (somebody(going), somebody(others))


def stepped(group, name):
    return [(number, room, steps + [name]) for number, room, steps in group]


def groups_after(house, plan, turn, groups):
    after = no_groups(house)
    after[None].extend(groups[None])
    for room in house.rooms():
        others = groups[room]
        for name, number in signs(house, plan, room, turn):
            parts = parted(others, number)
            after[house.door(name).end].extend(stepped(parts[0], name))
            others = parts[1]
        after[room].extend(stepped(others, None))
    return after


def walks(house, plan):
    need_lawful(house, plan)
    groups = groups_at_first(house)
    for turn in range(house.first, house.last):
        groups = groups_after(house, plan, turn, groups)
    dealt = []
    for group in groups.values():
        dealt.extend(group)
    return dealt


def joined(house, walks):
    rows = []
    for number, room, steps in walks:
        for turn, name in enumerate(steps, start=house.first):
            if name is not None:
                rows.append((turn, name, number))
    return as_told(rows)
