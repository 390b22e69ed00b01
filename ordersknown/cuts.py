"""Whether a unit's support is cut: surely, or maybe. Asked of a unit with whatever order."""

from ordersknown.orders import AID
from ordersknown.position import may_have_way, surely_has_way


def other_powers_movers_into(position, p):
    power = position.units[p].power
    return [mover for mover in position.movers_into(p) if position.units[mover].power != power]


def aids_against(position, p, mover):
    """Whether the unit in p helps a move into the province that the mover comes from."""
    order = position.orders[p]
    return order[0] == AID and order[2] == mover


def surely_cuts(position, p, mover):
    if not surely_has_way(position, mover):
        return False
    return not aids_against(position, p, mover) or mover in position.known.goes


def may_cut(position, p, mover):
    if not may_have_way(position, mover):
        return False
    return not aids_against(position, p, mover) or mover not in position.known.fails


def surely_cut(position, p):
    return any([surely_cuts(position, p, mover) for mover in other_powers_movers_into(position, p)])


def may_be_cut(position, p):
    return any([may_cut(position, p, mover) for mover in other_powers_movers_into(position, p)])
