"""The strengths, each with its lower and its upper bound, and whether a move goes by them."""

from ordersknown.orders import AID, STAY
from ordersknown.position import head_to_head, may_have_left, may_have_way, surely_has_way, surely_left


def sure_helpers(position, order):
    return [helper for helper in position.having(order) if helper in position.known.uncut]


def possible_helpers(position, order):
    return [helper for helper in position.having(order) if helper not in position.known.cut]


def aid_for(position, p):
    """The order by which others help the move from p."""
    return (AID, p, position.goal(p))


def attack(position, p, has_way, left, helpers):
    """By one bound's reading: whether it has its way, whether the unit in its goal has left, who helps it."""
    q = position.goal(p)
    if not has_way:
        return 0
    if q not in position.units or (left and not head_to_head(position, p, q)):
        return 1 + len(helpers)
    # A unit is in the way: no power drives out its own, or helps to do so.
    power = position.units[q].power
    if position.units[p].power == power:
        return 0
    return 1 + len([helper for helper in helpers if position.units[helper].power != power])


def attack_lower(position, p):
    left = surely_left(position, position.goal(p))
    return attack(position, p, surely_has_way(position, p), left, sure_helpers(position, aid_for(position, p)))


def attack_upper(position, p):
    left = may_have_left(position, position.goal(p))
    return attack(position, p, may_have_way(position, p), left, possible_helpers(position, aid_for(position, p)))


def keeps_out_lower(position, p):
    q = position.goal(p)
    if not surely_has_way(position, p):
        return 0
    if head_to_head(position, p, q) and q not in position.known.fails:
        return 0
    return 1 + len(sure_helpers(position, aid_for(position, p)))


def keeps_out_upper(position, p):
    q = position.goal(p)
    if not may_have_way(position, p):
        return 0
    if head_to_head(position, p, q) and q in position.known.goes:
        return 0
    return 1 + len(possible_helpers(position, aid_for(position, p)))


def holds_lower(position, p):
    if p not in position.units:
        return 0
    if position.moves(p):
        return 1 if p in position.known.fails else 0
    return 1 + len(sure_helpers(position, (STAY, p)))


def holds_upper(position, p):
    if p not in position.units:
        return 0
    if position.moves(p):
        return 0 if p in position.known.goes else 1
    return 1 + len(possible_helpers(position, (STAY, p)))


def wall_lower(position, p):
    q = position.goal(p)
    if head_to_head(position, p, q):
        return 1 + len(sure_helpers(position, aid_for(position, q)))
    return holds_lower(position, q)


def wall_upper(position, p):
    q = position.goal(p)
    if head_to_head(position, p, q):
        return 1 + len(possible_helpers(position, aid_for(position, q)))
    return holds_upper(position, q)


def rivals(position, p):
    """The other moves into the goal of the move from p."""
    return [mover for mover in position.movers_into(position.goal(p)) if mover != p]


def surely_goes(position, p):
    # Without its way a move's attack is 0, and no wall is less: so here and below the way isn't asked for again.
    strength = attack_lower(position, p)
    if strength <= wall_upper(position, p):
        return False
    return all([strength > keeps_out_upper(position, rival) for rival in rivals(position, p)])


def may_go(position, p):
    strength = attack_upper(position, p)
    if strength <= wall_lower(position, p):
        return False
    return all([strength > keeps_out_lower(position, rival) for rival in rivals(position, p)])
