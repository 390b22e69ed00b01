"""Looking at units: what the bounds decide becomes known.

Each function answers how many things more are known than before.
"""

from ordersknown.bounds import may_go, surely_goes
from ordersknown.chains import may_be_a_chain, surely_a_chain
from ordersknown.cuts import may_be_cut, surely_cut
from ordersknown.orders import AID, STAY

AT_SUPPORT = 0
AT_WAY = 1
AT_MOVE = 2


def look_at_support(position, p):
    known = position.known
    if surely_cut(position, p):
        known.cut[p] = True
    elif not may_be_cut(position, p):
        known.uncut[p] = True


def look_at_way(position, p):
    known = position.known
    if surely_a_chain(position, p):
        known.has_way[p] = True
    elif not may_be_a_chain(position, p):
        known.has_none[p] = True


def look_at_move(position, p):
    known = position.known
    if surely_goes(position, p):
        known.goes[p] = True
    elif not may_go(position, p):
        known.fails[p] = True


def look_at_unit(position, what, p):
    before = position.known.how_many()
    if what == AT_SUPPORT and position.orders[p][0] in (STAY, AID):
        look_at_support(position, p)
    elif what == AT_WAY and position.moves_by_water(p):
        look_at_way(position, p)
    elif what == AT_MOVE and position.moves(p):
        look_at_move(position, p)
    return position.known.how_many() - before


def one_pass(position):
    found = 0
    for p in position.units:
        found += look_at_unit(position, AT_SUPPORT, p)
        found += look_at_unit(position, AT_WAY, p)
        found += look_at_unit(position, AT_MOVE, p)
    return found


def all_passes(position):
    found = 0
    more = one_pass(position)
    while more > 0:
        found += more
        more = one_pass(position)
    return found
