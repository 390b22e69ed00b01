"""Units, their orders as given, and the orders as they count on a board.

An order as given is (HOLD,), (MOVE, q, t, water), (STAY, q), (AID, a, q) or (CARRY, a, q).
An order as it counts is (HOLD,), (MOVE, q), (BY_WATER, q), (STAY, q), (AID, a, q) or (CARRY, a, q).
"""

from ordersknown.board import COAST, SEA

HOLD = "hold"
MOVE = "move"
BY_WATER = "by water"
STAY = "stay"
AID = "aid"
CARRY = "carry"


class Unit:
    """An army or a fleet of a power, with the order that was given to it last."""

    def __init__(self, power, fleet, province, shore):
        self.power = power
        self.fleet = fleet
        self.province = province
        self.shore = shore
        self.order = (HOLD,)


def place_of(unit):
    return (unit.province, unit.shore)


def reaches(board, unit, q):
    # No link joins a province with itself, and none of land touches a sea:
    # so what is reached is another province, and for an army none that is sea.
    if unit.fleet == 1:
        return board.joined_at_some_shore(place_of(unit), q)
    return board.joined_by_land(unit.province, q)


def order_as_it_counts(board, unit):
    """Asked anew each time, as links may be laid behind an order."""
    order = unit.order
    if order[0] == MOVE and unit.fleet == 1:
        return fleet_move_as_it_counts(board, unit, order)
    if order[0] == MOVE:
        return army_move_as_it_counts(board, unit, order)
    if order[0] == STAY and reaches(board, unit, order[1]):
        return order
    if order[0] == AID and aid_counts(board, unit, order[1], order[2]):
        return order
    if order[0] == CARRY and carry_counts(board, unit, order[1], order[2]):
        return order
    return (HOLD,)


def fleet_move_as_it_counts(board, unit, order):
    goal = order[1]
    shore = order[2]
    water = order[3]
    if water == 0 and board.joined_by_sea(place_of(unit), (goal, shore)):
        return (MOVE, goal)
    return (HOLD,)


def army_move_as_it_counts(board, unit, order):
    goal = order[1]
    water = order[3]
    if goal == unit.province:
        return (HOLD,)
    if water == 0 and reaches(board, unit, goal):
        return (MOVE, goal)
    if board.kinds[unit.province] == COAST and board.kinds[goal] == COAST:
        return (BY_WATER, goal)
    return (HOLD,)


def aid_counts(board, unit, a, q):
    return a != q and a != unit.province and reaches(board, unit, q)


def carry_counts(board, unit, a, q):
    return unit.fleet == 1 and board.kinds[unit.province] == SEA and a != q
