"""Kept: houses and plans as texts, row by row."""

from firstout.doors import is_name
from firstout.errors import NoText, OutError
from firstout.house import House
from firstout.plans import as_told
from firstout.words import need_text, read_door, read_parts, row_of


def house_rows(house):
    rooms = house.rooms()
    if not all([is_name(room) for room in rooms]):
        raise NoText("the name of a room is no name")
    rows = [row_of(["turns", house.first, house.last])]
    rows.extend([row_of(["room", room, house.holds(room)]) for room in rooms])
    rows.extend([row_of(["way", house.door(name).words()]) for name in house.doors()])
    rows.extend([row_of(["people", room, house.found(room)]) for room in rooms if house.found(room) > 0])
    return rows


def house_text(house):
    return "\n".join(house_rows(house))


# Of each row with this first word what stands behind it.
def parts_behind(rows, first_word, forms):
    rows_of_words = [row.split(" ") for row in rows]
    return [read_parts(forms, words[1:]) for words in rows_of_words if words[0] == first_word]


def made_house(rows):
    turns = parts_behind(rows, "turns", ("number", "number"))
    if len(turns) != 1:
        raise NoText("there is not just one row of turns")
    rooms = parts_behind(rows, "room", ("name", "number"))
    doors = [read_door(row[len("way "):]) for row in rows if row.startswith("way ")]
    people = parts_behind(rows, "people", ("name", "number"))
    try:
        return House(rooms, doors, people, turns[0][1], turns[0][0])
    except OutError:
        raise NoText("the house is refused")


def house_of_rows(rows):
    house = made_house(rows)
    # So rows in another order, of nobody, of one room twice, or of no kind at all are found: no house is written so.
    if house_rows(house) != rows:
        raise NoText("no house is written so")
    return house


def read_house(text):
    need_text(text)
    return house_of_rows(text.split("\n"))


def plan_rows(plan):
    return [row_of(row) for row in plan]


def plan_text(plan):
    return "\n".join(plan_rows(plan))


def read_plan(text):
    need_text(text)
    # Split, the empty text would be one row without signs.
    rows = [] if text == "" else text.split("\n")
    plan = [read_parts(("number", "name", "number"), row.split(" ")) for row in rows]
    if as_told(plan) != plan:
        raise NoText("no plan is told so")
    return plan
