"""The desk: it is told rows about a house, and answers each with a list of texts."""

from firstout.anew import anew
from firstout.cuts import bound
from firstout.errors import NoHouse, NoRow
from firstout.first import all_out, best_cuts, first_out, lost, most_by
from firstout.kept import house_rows, plan_rows
from firstout.orders import read_order
from firstout.walks import walks
from firstout.words import row_of

CHANGES = ("house", "anew", "shut", "wider", "found")
ASKED_FOR_A_TURN = ("out", "cut", "bound")


def house_after(house, order):
    if order[0] == "house":
        return order[1]
    if order[0] == "anew":
        return anew(house, first_out(house), order[1])
    # The order is the happening as anew takes it. At the first turn nobody has gone anywhere yet, whatever the plan.
    return anew(house, [], house.first, [order])


def walk_row(number, room, steps):
    return row_of([number, room] + ["-" if name is None else name for name in steps])


def answer_for_turn(house, order):
    turn = order[1]
    if turn < house.first or turn > house.last:
        raise NoRow("the house has no such turn")
    if order[0] == "out":
        return [str(most_by(house, turn))]
    if order[0] == "cut":
        return [row_of(pair) for pair in best_cuts(house)[turn - house.first]]
    return [str(bound(house, order[2], turn))]


def answer(house, asked):
    if asked == "plan":
        return plan_rows(first_out(house))
    if asked == "walks":
        return [walk_row(number, room, steps) for number, room, steps in walks(house, first_out(house))]
    if asked == "all":
        turn = all_out(house)
        return ["none" if turn is None else str(turn)]
    if asked == "lost":
        return lost(house)
    return house_rows(house)


class Desk:
    def __init__(self):
        self.house = None

    def say(self, row):
        order = read_order(row)
        if order[0] != "house" and self.house is None:
            raise NoHouse("there is no house yet")
        if order[0] in CHANGES:
            self.house = house_after(self.house, order)
            return []
        if order[0] in ASKED_FOR_A_TURN:
            return answer_for_turn(self.house, order)
        return answer(self.house, order[0])
