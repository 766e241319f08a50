"""Words: numbers, names and doors as texts."""

from firstout.doors import Beat, Door, Marked, Shut, Since, Until, Wider, is_name
from firstout.errors import NoDoor, NoText

MOST_FIGURES = 60

# How many words a door that stands round another one has ahead of the words of that one.
WORDS_ROUND = {"shut": 2, "wider": 3}

# How many words a door of each other kind has in all.
WORDS_IN_ALL = {"door": 5, "since": 6, "until": 6, "beat": 7, "marked": 6}


def row_of(parts):
    return " ".join([str(part) for part in parts])


def need_text(thing):
    if not isinstance(thing, str):
        raise NoText("it is no text")


def is_written_whole(text):
    # Not isdigit: that takes figures of other alphabets, too.
    if not 1 <= len(text) <= MOST_FIGURES or not all(["0" <= sign <= "9" for sign in text]):
        return False
    return text == "0" or not text.startswith("0")


def read_whole(text):
    need_text(text)
    if not is_written_whole(text):
        raise NoText("the text is no number")
    return int(text)


def read_name(text):
    if not is_name(text):
        raise NoText("the text is no name")
    return text


def read_part(form, word):
    return read_name(word) if form == "name" else read_whole(word)


# Each form is "name" or "number": what the word in its place is to be.
def read_parts(forms, words):
    if len(forms) != len(words):
        raise NoText("there are words too few or too many")
    return tuple([read_part(form, word) for form, word in zip(forms, words)])


def door_round(inner, words):
    if words[0] == "shut":
        return Shut(inner, read_whole(words[1]))
    return Wider(inner, read_whole(words[1]), read_whole(words[2]))


def door_by_itself(words):
    if WORDS_IN_ALL.get(words[0]) != len(words):
        raise NoText("these are no words of a door")
    name = words[1]
    start = words[2]
    end = None if words[3] == "-" else words[3]
    numbers = [read_whole(word) for word in words[4:]]
    if words[0] == "door":
        return Door(name, start, end, numbers[0])
    if words[0] == "since":
        return Since(name, start, end, numbers[0], numbers[1])
    if words[0] == "until":
        return Until(name, start, end, numbers[0], numbers[1])
    if words[0] == "beat":
        return Beat(name, start, end, numbers[0], numbers[1], numbers[2])
    return Marked(name, start, end, numbers[0], numbers[1])


# A walk from the outermost door inwards, and back: so it takes no deep recursion, however many stand round one another.
def door_of_words(words):
    rounds = []
    at = 0
    while at < len(words) and words[at] in WORDS_ROUND:
        behind = at + WORDS_ROUND[words[at]]
        rounds.append(words[at:behind])
        at = behind
    if at >= len(words):
        raise NoText("there is no door within")
    door = door_by_itself(words[at:])
    for words_round in reversed(rounds):
        door = door_round(door, words_round)
    return door


def read_door(text):
    need_text(text)
    try:
        return door_of_words(text.split(" "))
    except NoDoor:
        raise NoText("the door is refused")
