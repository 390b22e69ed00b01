"""The units with their orders as they count, and what is known of these.

A unit is named by its province here, a move by the province that it comes from.
"""

from ordersknown.orders import BY_WATER, MOVE, order_as_it_counts


class Position:
    """Good for as long as board, units and orders stay as they are; what is known may grow."""

    def __init__(self, board, units, known):
        self.board = board
        self.units = units
        self.known = known
        self.orders = {}
        self.by_order = {}
        for p, unit in units.items():
            order = order_as_it_counts(board, unit)
            self.orders[p] = order
            self.by_order.setdefault(order, []).append(p)

    def having(self, order):
        """The units that have just this order."""
        return list(self.by_order.get(order, []))

    def movers_into(self, q):
        return self.having((MOVE, q)) + self.having((BY_WATER, q))

    def moves(self, p):
        """Also asked of a goal, where no unit may be."""
        return p in self.orders and self.orders[p][0] in (MOVE, BY_WATER)

    def moves_by_water(self, p):
        return self.orders[p][0] == BY_WATER

    def goal(self, p):
        """Of a unit that moves."""
        return self.orders[p][1]


def surely_has_way(position, p):
    return not position.moves_by_water(p) or p in position.known.has_way


def may_have_way(position, p):
    return not position.moves_by_water(p) or p not in position.known.has_none


def surely_left(position, p):
    return position.moves(p) and p in position.known.goes


def may_have_left(position, p):
    return position.moves(p) and p not in position.known.fails


def head_to_head(position, p, q):
    """Of a move from p to q."""
    return position.orders[p] == (MOVE, q) and position.orders.get(q) == (MOVE, p)
