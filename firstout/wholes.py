"""What a whole number is."""


def is_whole(thing):
    # A truth is an int to Python, but no number here.
    return isinstance(thing, int) and not isinstance(thing, bool)
