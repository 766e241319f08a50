"""Orders: the rows that a desk is told, read by their words alone, whatever house there is."""

from firstout.errors import NoRow, NoText
from firstout.kept import house_of_rows
from firstout.words import need_text, read_parts

# What stands behind the first word; of house and bound, which are not here, it has no fixed length.
FORMS = {
    "plan": (),
    "out": ("number",),
    "cut": ("number",),
    "all": (),
    "lost": (),
    "walks": (),
    "anew": ("number",),
    "shut": ("name", "number"),
    "wider": ("name", "number", "number"),
    "found": ("name", "number"),
    "keep": (),
}


def bound_order(words):
    forms = ("number",) + ("name", "number") * (len(words) // 2)
    parts = read_parts(forms, words)
    return ("bound", parts[0], [(parts[at], parts[at + 1]) for at in range(1, len(parts), 2)])


# An order is a tuple: the first word of the row, and behind it what the other ones say.
def order_of(row):
    words = row.split(" ")
    if words[0] == "house":
        return ("house", house_of_rows(row[len("house "):].split("; ")))
    if words[0] == "bound":
        return bound_order(words[1:])
    if words[0] not in FORMS:
        raise NoText("no row begins so")
    return (words[0],) + read_parts(FORMS[words[0]], words[1:])


def read_order(row):
    try:
        need_text(row)
        return order_of(row)
    except NoText:
        raise NoRow("there is no such row")
