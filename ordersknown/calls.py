"""The table that a line of calls works on, and what each call does there.

Each call's function answers its row; its numbers are in their ranges already.
"""

from ordersknown.board import Board, LAND, SEA
from ordersknown.bounds import attack_lower, attack_upper, holds_lower, holds_upper
from ordersknown.bounds import keeps_out_lower, keeps_out_upper, wall_lower, wall_upper
from ordersknown.cuts import may_be_cut, surely_cut
from ordersknown.known import Known
from ordersknown.looking import all_passes, look_at_unit, one_pass
from ordersknown.orders import AID, CARRY, HOLD, MOVE, STAY, Unit
from ordersknown.position import Position

DONE = 0
FULL = -2
UNFIT = -3
THERE_ALREADY = -4
NO_UNIT = -5

MOST_PROVINCES = 40
MOST_LINKS = 300
MOST_UNITS = 24

# The calls up to this place lay the board, set units and order them; those behind it only work out and tell.
LAST_CHANGE = 10


class Table:
    """A board, the units on it by their provinces, in the order in which they were set, and what is known."""

    def __init__(self):
        self.board = Board()
        self.units = {}
        self.known = Known()


def clear_table(table):
    table.board = Board()
    table.units = {}
    return [DONE]


def new_province(table, kind):
    if len(table.board.kinds) >= MOST_PROVINCES:
        return [FULL]
    return [DONE, table.board.lay_province(kind)]


def new_land_link(table, p, q):
    board = table.board
    if p == q or board.kinds[p] == SEA or board.kinds[q] == SEA:
        return [UNFIT]
    if board.joined_by_land(p, q):
        return [THERE_ALREADY]
    if len(board.land_links) >= MOST_LINKS:
        return [FULL]
    board.join_by_land(p, q)
    return [DONE]


def new_sea_link(table, p, s, q, t):
    board = table.board
    if p == q or board.kinds[p] == LAND or board.kinds[q] == LAND:
        return [UNFIT]
    if board.joined_by_sea((p, s), (q, t)):
        return [THERE_ALREADY]
    if len(board.sea_links) >= MOST_LINKS:
        return [FULL]
    board.join_by_sea((p, s), (q, t))
    return [DONE]


def may_stand(board, fleet, p, s):
    if fleet == 1:
        return board.kinds[p] != LAND
    return board.kinds[p] != SEA and s == 0


def new_unit(table, power, fleet, p, s):
    if not may_stand(table.board, fleet, p, s):
        return [UNFIT]
    if p in table.units:
        return [THERE_ALREADY]
    if len(table.units) >= MOST_UNITS:
        return [FULL]
    table.units[p] = Unit(power, fleet, p, s)
    return [DONE]


def take_unit_away(table, p):
    if p not in table.units:
        return [NO_UNIT]
    table.units.pop(p)
    return [DONE]


def give_order(table, p, order):
    if p not in table.units:
        return [NO_UNIT]
    unit = table.units[p]
    unit.order = order
    return [DONE]


def order_hold(table, p):
    return give_order(table, p, (HOLD,))


def order_move(table, p, q, t, water):
    return give_order(table, p, (MOVE, q, t, water))


def order_stay(table, p, q):
    return give_order(table, p, (STAY, q))


def order_aid(table, p, a, q):
    return give_order(table, p, (AID, a, q))


def order_carry(table, p, a, q):
    return give_order(table, p, (CARRY, a, q))


def position_on(table):
    return Position(table.board, table.units, table.known)


def forget_all(table):
    table.known = Known()
    return [DONE]


def look_at_one(table, what, p):
    if p not in table.units:
        return [NO_UNIT]
    return [DONE, look_at_unit(position_on(table), what, p)]


def make_one_pass(table):
    return [DONE, one_pass(position_on(table))]


def make_all_passes(table):
    return [DONE, all_passes(position_on(table))]


def tell_known(table):
    row = [DONE]
    for kind in table.known.six_kinds():
        row.append(len(kind))
        row.extend(sorted(kind))
    return row


def tell_bounds(table, p):
    if p not in table.units:
        return [NO_UNIT]
    position = position_on(table)
    if not position.moves(p):
        return [DONE, holds_lower(position, p), holds_upper(position, p)]
    return [
        DONE,
        attack_lower(position, p), attack_upper(position, p),
        wall_lower(position, p), wall_upper(position, p),
        keeps_out_lower(position, p), keeps_out_upper(position, p),
    ]


def tell_unknown(table):
    position = position_on(table)
    known = table.known
    moves = [p for p in sorted(table.units) if position.moves(p)]
    undecided = [p for p in moves if p not in known.goes and p not in known.fails]
    return [DONE, len(undecided)] + undecided


def tell_support(table, p):
    if p not in table.units:
        return [NO_UNIT]
    position = position_on(table)
    return [DONE, 1 if surely_cut(position, p) else 0, 1 if may_be_cut(position, p) else 0]


def tell_count(table):
    return [DONE, table.known.how_many()]


DOERS = {
    0: clear_table,
    1: new_province,
    2: new_land_link,
    3: new_sea_link,
    4: new_unit,
    5: take_unit_away,
    6: order_hold,
    7: order_move,
    8: order_stay,
    9: order_aid,
    10: order_carry,
    11: forget_all,
    12: look_at_one,
    13: make_one_pass,
    14: make_all_passes,
    15: tell_known,
    16: tell_bounds,
    17: tell_unknown,
    18: tell_support,
    19: tell_count,
}


def do_call(table, place, numbers):
    row = row_of_call(table, place, numbers)
    if place <= LAST_CHANGE and row[0] == DONE:
        table.known = Known()
    return row


def row_of_call(table, place, numbers):
    doer = DOERS[place]
    if len(numbers) == 0:
        return doer(table)
    if len(numbers) == 1:
        return doer(table, numbers[0])
    if len(numbers) == 2:
        return doer(table, numbers[0], numbers[1])
    if len(numbers) == 3:
        return doer(table, numbers[0], numbers[1], numbers[2])
    return doer(table, numbers[0], numbers[1], numbers[2], numbers[3])
