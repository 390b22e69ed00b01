"""The table that a line of calls works on, and what each call does there.

Each call's function answers its row; its numbers are in their ranges already.
"""

from ordersknown.board import Board, LAND, SEA
from ordersknown.orders import AID, HOLD, MOVE, STAY, Unit

DONE = 0
FULL = -2
UNFIT = -3
THERE_ALREADY = -4
NO_UNIT = -5

MOST_PROVINCES = 40
MOST_LINKS = 300
MOST_UNITS = 24


class Table:
    """A board, and the units on it by their provinces, in the order in which they were set."""

    def __init__(self):
        self.board = Board()
        self.units = {}


def clear_table(table):
    table.board = Board()
    table.units = {}
    return [DONE]


def new_province(table, kind):
    if len(table.board.kinds) >= MOST_PROVINCES:
        return [FULL]
    return [DONE, table.board.lay_province(kind)]


def new_land_link(table, p, q):
    board = table.board
    if p == q or board.kinds[p] == SEA or board.kinds[q] == SEA:
        return [UNFIT]
    if board.joined_by_land(p, q):
        return [THERE_ALREADY]
    if len(board.land_links) >= MOST_LINKS:
        return [FULL]
    board.join_by_land(p, q)
    return [DONE]


def new_sea_link(table, p, s, q, t):
    board = table.board
    if p == q or board.kinds[p] == LAND or board.kinds[q] == LAND:
        return [UNFIT]
    if board.joined_by_sea((p, s), (q, t)):
        return [THERE_ALREADY]
    if len(board.sea_links) >= MOST_LINKS:
        return [FULL]
    board.join_by_sea((p, s), (q, t))
    return [DONE]


def may_stand(board, fleet, p, s):
    if fleet == 1:
        return board.kinds[p] != LAND
    return board.kinds[p] != SEA and s == 0


def new_unit(table, power, fleet, p, s):
    if not may_stand(table.board, fleet, p, s):
        return [UNFIT]
    if p in table.units:
        return [THERE_ALREADY]
    if len(table.units) >= MOST_UNITS:
        return [FULL]
    table.units[p] = Unit(power, fleet, p, s)
    return [DONE]


def take_unit_away(table, p):
    if p not in table.units:
        return [NO_UNIT]
    table.units.pop(p)
    return [DONE]


def give_order(table, p, order):
    if p not in table.units:
        return [NO_UNIT]
    unit = table.units[p]
    unit.order = order
    return [DONE]


def order_hold(table, p):
    return give_order(table, p, (HOLD,))


def order_move(table, p, q, t, water):
    return give_order(table, p, (MOVE, q, t, water))


def order_stay(table, p, q):
    return give_order(table, p, (STAY, q))


def order_aid(table, p, a, q):
    return give_order(table, p, (AID, a, q))


DOERS = {
    0: clear_table,
    1: new_province,
    2: new_land_link,
    3: new_sea_link,
    4: new_unit,
    5: take_unit_away,
    6: order_hold,
    7: order_move,
    8: order_stay,
    9: order_aid,
}


def do_call(table, place, numbers):
    doer = DOERS[place]
    if len(numbers) == 0:
        return doer(table)
    if len(numbers) == 1:
        return doer(table, numbers[0])
    if len(numbers) == 2:
        return doer(table, numbers[0], numbers[1])
    if len(numbers) == 3:
        return doer(table, numbers[0], numbers[1], numbers[2])
    return doer(table, numbers[0], numbers[1], numbers[2], numbers[3])
