"""Chains of fleets that carry an army, and whether a fleet is driven out of one."""

from ordersknown.orders import CARRY, place_of


# Both are asked of fleets that carry alone: these don't move, so none of them can have left.
def surely_driven_out(position, p):
    return any([mover in position.known.goes for mover in position.movers_into(p)])


def may_be_driven_out(position, p):
    return any([mover not in position.known.fails for mover in position.movers_into(p)])


def touches(position, p, q):
    """Whether the fleet in p is joined with the province q."""
    return position.board.joined_at_some_shore(place_of(position.units[p]), q)


def fleets_joined(position, p, other):
    return position.board.joined_by_sea(place_of(position.units[p]), place_of(position.units[other]))


def chain_among(position, fleets, a, q):
    """Whether some of these fleets, in some order, lead from a to q."""
    reached = [fleet for fleet in fleets if touches(position, fleet, a)]
    rest = [fleet for fleet in fleets if fleet not in reached]
    at = 0
    while at < len(reached):
        fleet = reached[at]
        if touches(position, fleet, q):
            return True
        further = [other for other in rest if fleets_joined(position, fleet, other)]
        rest = [other for other in rest if other not in further]
        reached.extend(further)
        at += 1
    return False


def carriers(position, p):
    """The fleets that carry the army in p to its goal."""
    return position.having((CARRY, p, position.goal(p)))


def surely_a_chain(position, p):
    fleets = [fleet for fleet in carriers(position, p) if not may_be_driven_out(position, fleet)]
    return chain_among(position, fleets, p, position.goal(p))


def may_be_a_chain(position, p):
    fleets = [fleet for fleet in carriers(position, p) if not surely_driven_out(position, fleet)]
    return chain_among(position, fleets, p, position.goal(p))
