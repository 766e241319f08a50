"""The refusals: one error class each, all of them under OutError."""


class OutError(ValueError):
    pass


class NoDoor(OutError):
    pass


class NoHouse(OutError):
    pass


class NoPlan(OutError):
    pass


class NoTurn(OutError):
    pass


class NoText(OutError):
    pass


class NoRow(OutError):
    pass


# The three below are asked which name they speak of, so they keep it.


class Twice(OutError):
    def __init__(self, name):
        self.name = name


class NoRoom(OutError):
    def __init__(self, name):
        self.name = name


class Unknown(OutError):
    def __init__(self, name):
        self.name = name
