"""Doors: how many people they let through at each turn, in eight kinds."""

from firstout.errors import NoDoor, NoText
from firstout.wholes import is_whole

LONGEST_NAME = 8


def is_name(thing):
    if not isinstance(thing, str):
        return False
    # Not islower: that takes small letters of other alphabets, too.
    return 1 <= len(thing) <= LONGEST_NAME and all(["a" <= sign <= "z" for sign in thing])


def need_name(part, thing):
    if not is_name(thing):
        raise NoDoor(f"{part} is no name")


def need_whole(part, thing, least):
    if not is_whole(thing) or thing < least:
        raise NoDoor(f"{part} is no whole number from {least} on")


def row_of_words(kind, door, numbers):
    end = "-" if door.is_exit() else door.end
    return " ".join([kind, door.name, door.start, end] + [str(number) for number in numbers])


class Door:
    def __init__(self, name, start, end=None, wide=1):
        need_name("name", name)
        need_name("start", start)
        if end is not None:
            need_name("end", end)
        need_whole("wide", wide, 0)
        self.name = name
        self.start = start
        self.end = end
        self.wide = wide

    def lets(self, turn):
        return self.wide

    def is_exit(self):
        return self.end is None

    def words(self):
        return row_of_words("door", self, [self.wide])


class Since(Door):
    def __init__(self, name, start, end, wide, since):
        Door.__init__(self, name, start, end, wide)
        need_whole("since", since, 0)
        self.since = since

    def lets(self, turn):
        return self.wide if turn >= self.since else 0

    def words(self):
        return row_of_words("since", self, [self.wide, self.since])


class Until(Door):
    def __init__(self, name, start, end, wide, until):
        Door.__init__(self, name, start, end, wide)
        need_whole("until", until, 0)
        self.until = until

    def lets(self, turn):
        return self.wide if turn < self.until else 0

    def words(self):
        return row_of_words("until", self, [self.wide, self.until])


class Beat(Door):
    def __init__(self, name, start, end, wide, every, since=0):
        Door.__init__(self, name, start, end, wide)
        need_whole("every", every, 1)
        need_whole("since", since, 0)
        self.every = every
        self.since = since

    def lets(self, turn):
        waited = turn - self.since
        return self.wide if waited >= 0 and waited % self.every == 0 else 0

    def words(self):
        return row_of_words("beat", self, [self.wide, self.every, self.since])


class Marked(Door):
    def __init__(self, name, start, end, wide, bits):
        Door.__init__(self, name, start, end, wide)
        need_whole("bits", bits, 0)
        self.bits = bits

    def lets(self, turn):
        # Beyond the bits nothing is shifted, so that no turn is too great for it.
        if turn >= self.bits.bit_length():
            return 0
        return self.wide if (self.bits >> turn) % 2 == 1 else 0

    def words(self):
        return row_of_words("marked", self, [self.wide, self.bits])


# The three kinds below answer lets without a wide of their own, so they leave it out.


class Told(Door):
    def __init__(self, name, start, end, letting):
        Door.__init__(self, name, start, end)
        self.letting = letting

    def lets(self, turn):
        letting = self.letting
        return letting(turn)

    def words(self):
        raise NoText("a Told has no words")


class Shut(Door):
    def __init__(self, door, turn):
        Door.__init__(self, door.name, door.start, door.end)
        need_whole("turn", turn, 0)
        self.inner = door
        self.turn = turn

    def lets(self, turn):
        return self.inner.lets(turn) if turn < self.turn else 0

    def words(self):
        return " ".join(["shut", str(self.turn), self.inner.words()])


class Wider(Door):
    def __init__(self, door, turn, more):
        Door.__init__(self, door.name, door.start, door.end)
        need_whole("turn", turn, 0)
        need_whole("more", more, 0)
        self.inner = door
        self.turn = turn
        self.more = more

    def lets(self, turn):
        # The door within is asked once: asked twice at each of many doors
        # round one another, the asking would double with each of them.
        number = self.inner.lets(turn)
        return number + self.more if turn >= self.turn and number > 0 else number

    def words(self):
        return " ".join(["wider", str(self.turn), str(self.more), self.inner.words()])
