"""What several tests need: doors, houses, all plans and cuts of small ones, and desks."""

import itertools
import random

from firstout.desk import Desk
from firstout.doors import Beat, Door, Marked, Shut, Since, Told, Until, Wider
from firstout.errors import NoDoor, NoHouse, NoPlan, NoRoom, NoRow, NoText, NoTurn, Twice, Unknown
from firstout.first import first_out
from firstout.house import House
from firstout.kept import house_text, read_house

REFUSALS = [NoDoor, NoHouse, NoPlan, NoTurn, NoText, NoRow, Twice, NoRoom, Unknown]
GREAT = 10 ** 11


def refused(test, error, call, name=None):
    """The call is refused with just this class, and with the name where the class has one."""
    with test.assertRaises(error) as caught:
        call()
    for other in REFUSALS:
        if other is not error:
            test.assertNotIsInstance(caught.exception, other)
    if name is not None:
        test.assertEqual(caught.exception.name, name)


def hall_house(first=0):
    """The house of point 15."""
    return House([("hall", 3)], [Door("d", "hall", None, 2)], [("hall", 3)], first + 2, first)


def yard_house(last=2, first=0):
    """The house of point 17."""
    doors = [Door("d", "hall", None, 2), Door("e", "yard", "hall", 4)]
    return House([("hall", 3), ("yard", 9)], doors, [("hall", 3), ("yard", 2)], first + last, first)


def each_kind(name, start, end, first=0):
    """A door of each kind, with what it lets at the turns first to first + 4."""
    return [
        (Door(name, start, end, 2), [2, 2, 2, 2, 2]),
        (Since(name, start, end, 2, first + 2), [0, 0, 2, 2, 2]),
        (Until(name, start, end, 2, first + 2), [2, 2, 0, 0, 0]),
        (Beat(name, start, end, 2, 2, first + 1), [0, 2, 0, 2, 0]),
        # Bits of a turn as great as GREAT would be too many, so it lets none there.
        (Marked(name, start, end, 2, 0b11001), [2, 0, 0, 2, 2] if first == 0 else [0, 0, 0, 0, 0]),
        (Told(name, start, end, lambda turn: turn - first + 1), [1, 2, 3, 4, 5]),
        (Shut(Door(name, start, end, 3), first + 3), [3, 3, 3, 0, 0]),
        (Wider(Door(name, start, end, 1), first + 1, 4), [1, 5, 5, 5, 5]),
    ]


def doors_and_words(end, written):
    """Tuples (door, its words), of each kind that has words and stands round no other one."""
    return [
        (Door("a", "hall", end, 2), f"door a hall {written} 2"),
        (Door("a", "hall", end, 0), f"door a hall {written} 0"),
        (Door("a", "hall", end), f"door a hall {written} 1"),
        (Since("bb", "hall", end, 2, 3), f"since bb hall {written} 2 3"),
        (Since("bb", "hall", end, 0, 10 ** 12), f"since bb hall {written} 0 1000000000000"),
        (Until("c", "abcdefgh", end, 2, 5), f"until c abcdefgh {written} 2 5"),
        (Beat("d", "hall", end, 2, 3, 4), f"beat d hall {written} 2 3 4"),
        (Beat("d", "hall", end, 2, 3), f"beat d hall {written} 2 3 0"),
        (Marked("e", "hall", end, 2, 13), f"marked e hall {written} 2 13"),
        (Marked("e", "hall", end, 2, 0), f"marked e hall {written} 2 0"),
    ]


def large_house(first=0):
    """Eight rooms in a row, sixteen doors, twenty turns."""
    names = ["aa", "bb", "cc", "dd", "ee", "ff", "gg", "hh"]
    rooms = [(name, 10 + at) for at, name in enumerate(names)]
    doors = [Told(f"on{here}", here, after, lambda turn, here=here: (turn * 7 + ord(here[0]) * 5) % 4)
             for here, after in zip(names, names[1:])]
    doors += [Beat(f"back{after}", after, here, 2, 3, first) for here, after in zip(names[:4], names[1:5])]
    doors += [Door("left", "aa", None, 1), Since("right", "hh", None, 3, first + 4), Until("mid", "dd", None, 2, first + 9)]
    doors += [Door("self", "cc", "cc", 5), Wider(Shut(Door("hop", "bb", "gg", 1), first + 15), first + 5, 2)]
    return House(rooms, doors, [(name, 9) for name in names], first + 20, first)


def drawn_door(draw, name, start, end, wide, last):
    kind = draw.randrange(8)
    if kind == 0:
        return Door(name, start, end, wide)
    if kind == 1:
        return Since(name, start, end, wide, draw.randrange(last))
    if kind == 2:
        return Until(name, start, end, wide, draw.randrange(last + 1))
    if kind == 3:
        return Beat(name, start, end, wide, draw.randrange(1, 4), draw.randrange(3))
    if kind == 4:
        return Marked(name, start, end, wide, draw.randrange(2 ** last))
    if kind == 5:
        return Shut(Door(name, start, end, wide), draw.randrange(last + 1))
    if kind == 6:
        inner = Since(name, start, end, wide, draw.randrange(last))
        return Wider(inner, draw.randrange(last), draw.randrange(wide + 1))
    turned = draw.randrange(1000)
    return Told(name, start, end, lambda turn: (turn * 7919 + turned) % (wide + 1))


def drawn_house(seed, rooms, doors, last, size):
    """A house drawn by a seed, the same at each run."""
    draw = random.Random(seed)
    names = "abcdefgh"[:rooms]
    sizes = [(name, draw.choice([0, size, size] + [draw.randrange(1, size + 1)] * 3)) for name in names]
    ends = [None] + [draw.choice(list(names) + [None]) for door in range(doors - 1)]
    drawn = [drawn_door(draw, "abcdefghijklmnop"[at], draw.choice(names), end, draw.randrange(size) // 2 + 1, last)
             for at, end in enumerate(ends)]
    return House(sizes, drawn, [(name, draw.randrange(holds // 2, holds + 1)) for name, holds in sizes], last)


def drawn_houses():
    """Houses of many sizes, up to the largest."""
    houses = [drawn_house(seed, 2 + seed % 3, 4, 4, 5) for seed in range(20)]
    houses += [drawn_house(seed, 5, 10, 12, 12) for seed in range(10)]
    houses += [drawn_house(seed, 8, 16, 20, size) for seed, size in enumerate([4, 30, 10 ** 13] * 2)]
    return houses + [large_house(), large_house(GREAT)]


def small_houses():
    """Houses small enough for all their plans and cuts to be gone through."""
    return [
        House([], [], [], 2),
        House([("hall", 2)], [], [("hall", 1)], 3),
        hall_house(),
        hall_house(7),
        yard_house(),
        yard_house(3),
        # Hall holds less than what its doors let in.
        House([("hall", 1), ("yard", 4)], [Door("d", "hall", None, 2), Door("e", "yard", "hall", 2)], [("yard", 3)], 3),
        # Two doors into one room that holds less than both let in.
        House([("a", 1), ("b", 1), ("c", 1)],
              [Door("d", "a", "c"), Door("e", "b", "c"), Door("f", "c", None, 2), Door("g", "b", None, 0)],
              [("a", 1), ("b", 1)], 2),
        # Nobody can come into a full room but where somebody goes on.
        House([("a", 2), ("b", 1)], [Door("d", "a", "b"), Until("e", "b", None, 1, 6), Since("f", "a", None, 1, 7)],
              [("a", 2), ("b", 1)], 8, 5),
        # Whoever is in the way and can't be out must still find room.
        House([("a", 1), ("b", 1)], [Door("d", "a", "b"), Door("e", "b", "a"), Since("f", "a", None, 1, 1)],
              [("a", 1), ("b", 1)], 3),
        House([("a", 2), ("b", 2)], [Door("d", "a", "a"), Beat("e", "a", "b", 2, 2), Beat("f", "b", None, 1, 2, 1)],
              [("a", 2)], 3),
        House([("a", 2), ("b", 0)], [Door("d", "a", "b", 2), Door("e", "b", None, 2), Since("f", "a", None, 2, 1)],
              [("a", 1), ("a", 1)], 2),
        House([("a", 3), ("b", 3)], [Wider(Door("d", "a", "b"), 1, 1), Shut(Door("e", "b", None, 2), 2)],
              [("a", 3), ("b", 1)], 3),
    ]


def plans_within_doors(house):
    """All plans as told by which no more go through a door than it lets."""
    places = [(turn, name) for turn in range(house.first, house.last) for name in house.doors()]
    for numbers in itertools.product(*[range(house.lets(name, turn) + 1) for turn, name in places]):
        yield sorted((turn, name, number) for (turn, name), number in zip(places, numbers) if number > 0)


def is_lawful(house, plan):
    """Point 13 and 14 gone through turn by turn with people one by one, not by the program's own there."""
    inside = {room: house.found(room) for room in house.rooms()}
    for turn in range(house.first, house.last):
        coming = []
        for at, name, number in plan:
            if at == turn:
                for person in range(number):
                    if inside[house.door(name).start] == 0:
                        return False
                    inside[house.door(name).start] -= 1
                    coming.append(house.door(name).end)
        for room in coming:
            if room is not None:
                inside[room] += 1
        if any(inside[room] > house.holds(room) for room in inside):
            return False
    return True


def lawful_plans(house):
    return [plan for plan in plans_within_doors(house) if is_lawful(house, plan)]


def most_out(house, plans):
    """For each turn from first to last the most that one of the plans has out by then."""
    most = []
    for turn in range(house.first, house.last + 1):
        most.append(max(sum(number for at, name, number in plan if at < turn and house.door(name).end is None)
                        for plan in plans))
    return most


def states_after(house, turn, state):
    """All states behind the turn that some lawful goings at it lead to; a state is (out, how many in each room)."""
    rooms = house.rooms()
    doors = [house.door(name) for name in house.doors()]
    for numbers in itertools.product(*[range(min(house.lets(door.name, turn), state[1 + rooms.index(door.start)]) + 1)
                                       for door in doors]):
        left, come = list(state), [0] * len(state)
        for door, number in zip(doors, numbers):
            left[1 + rooms.index(door.start)] -= number
            come[0 if door.end is None else 1 + rooms.index(door.end)] += number
        after = tuple(stay + new for stay, new in zip(left, come))
        if min(left) >= 0 and all(after[1 + at] <= house.holds(room) for at, room in enumerate(rooms)):
            yield after


def most_out_by_states(house):
    """For each turn from first to last the most that any lawful plan has out by then, for houses of few people."""
    states = {(0,) + tuple(house.found(room) for room in house.rooms())}
    most = [0]
    for turn in range(house.first, house.last):
        states = {after for state in states for after in states_after(house, turn, state)}
        most.append(max(state[0] for state in states))
    return most


def all_cuts(house):
    pairs = [(room, turn) for turn in range(house.first, house.last) for room in house.rooms()]
    for size in range(len(pairs) + 1):
        for cut in itertools.combinations(pairs, size):
            yield list(cut)


def outs_of(house, plan):
    """How many are out by each turn from first to last, added up row by row, not by the program's own out_by."""
    return most_out(house, [plan])


def told_otherwise(plan):
    """The same plan in another order, with rows of 0 and numbers in more rows than one."""
    rows = []
    for turn, name, number in plan:
        rows = [(turn, name, number - number // 2), (turn, name, 0)] + rows + [(turn, name, number // 2)]
    return rows + [(0, "nodoor", 0)]


def told_of(house):
    """All that a house tells, of the doors what they let up to last."""
    rooms = [(room, house.holds(room), house.found(room), house.into(room), house.from_room(room))
             for room in house.rooms()]
    doors = [(name, house.door(name).start, house.door(name).end,
              [house.lets(name, turn) for turn in range(house.first, house.last + 1)]) for name in house.doors()]
    return [house.first, house.last, house.total(), rooms, doors, house.pairs()]


def drawn_plan(house, seed):
    """A lawful plan drawn by a seed, in which people also go where it is of no use."""
    draw = random.Random(seed)
    inside = {room: house.found(room) for room in house.rooms()}
    plan = []
    for turn in range(house.first, house.last):
        left, come, rows = dict(inside), {room: 0 for room in inside}, []
        for name in house.doors():
            door = house.door(name)
            number = draw.randrange(min(house.lets(name, turn), left[door.start]) + 1)
            if door.end is not None:
                number = min(number, max(0, house.holds(door.end) - inside[door.end] - come[door.end]))
                come[door.end] += number
            left[door.start] -= number
            rows += [(turn, name, number)] if number > 0 else []
        inside = {room: left[room] + come[room] for room in inside}
        plan += rows
    return sorted(plan)


def houses_with_plans():
    """Tuples (house, a lawful plan of it): all of the small houses, some of the others."""
    pairs = [(house, plan) for house in small_houses() for plan in lawful_plans(house)]
    for house in drawn_houses():
        pairs.append((house, first_out(house)))
        pairs += [(house, drawn_plan(house, seed)) for seed in range(2)]
    return pairs


def plans_with_faults():
    """Of yard_house(), by what is wrong with them."""
    return {
        "more than the door lets": [(0, "d", 3)],
        "rows that add up to more than the door lets": [(1, "d", 1), (0, "e", 1), (1, "d", 2)],
        "a door that there is none": [(0, "f", 1)],
        "ahead of first": [(-1, "d", 1)],
        "from last on": [(2, "d", 1)],
        "more leave than are in the room": [(0, "e", 3)],
        "more leave than are still in the room": [(0, "d", 2), (1, "d", 2)],
        "a room too full": [(0, "e", 1)],
        "a room too full at last": [(1, "e", 2)],
    }


def with_words(house):
    """The house with a Beat in the place of each Told, so that all its doors have words."""
    doors = [house.door(name) for name in house.doors()]
    doors = [Beat(door.name, door.start, door.end, 2, 2, house.first) if isinstance(door, Told) else door
             for door in doors]
    return House([(room, house.holds(room)) for room in house.rooms()], doors,
                 [(room, house.found(room)) for room in house.rooms()], house.last, house.first)


def houses_with_words():
    return [with_words(house) for house in small_houses() + drawn_houses()]


def desk_told(rows):
    """A desk that was told a house by its rows."""
    desk = Desk()
    desk.say("house " + "; ".join(rows))
    return desk


def desk_with(house):
    return desk_told(house_text(house).split("\n"))


def kept_house(desk):
    """The house that a desk has now."""
    return read_house("\n".join(desk.say("keep")))


def yard_rows():
    """The rows of yard_house()."""
    return ["turns 0 2", "room hall 3", "room yard 9", "way door d hall - 2", "way door e yard hall 4", "people hall 3",
            "people yard 2"]


def rows_asking(house):
    """All rows that ask a desk with this house and change nothing."""
    rows = ["plan", "all", "lost", "walks", "keep"]
    for turn in range(house.first, house.last + 1):
        rows += [f"out {turn}", f"cut {turn}", f"bound {turn}"]
        rows += [f"bound {turn} {room} {at}" for room, at in house.pairs()[:6]]
    return rows


def all_answers(desk, house):
    """What a desk with this house answers to all that can be asked of it."""
    return [(row, desk.say(row)) for row in rows_asking(house)]
