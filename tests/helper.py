"""What the tests share: calls by their names, and answers cut into rows."""

from itertools import combinations

from ordersknown.calls import Table
from ordersknown.table import answer_call, answers

CLEAR, PROVINCE, LAND, SEA, UNIT, GONE, HOLD, MOVE, STAY, AID = range(10)
CARRY, FORGET, LOOK, PASS, ALL, KNOWN, BOUNDS, UNKNOWN, SUPPORT, COUNT = range(10, 20)

INLAND, OCEAN, COAST = range(3)
ARMY, FLEET = range(2)

LEAST = -1000000000000000000
MOST = 1000000000000000000


def flat(calls):
    return [number for call in calls for number in call]


def cut(answered):
    """The rows, each without its count; a count that doesn't fit fails."""
    rows = []
    at = 0
    while at < len(answered):
        end = at + 1 + answered[at]
        if answered[at] < 1 or end > len(answered):
            raise AssertionError(f"no row at {at} of {answered}")
        rows.append(answered[at + 1:end])
        at = end
    return rows


def ask(calls):
    return cut(answers(flat(calls)))


def last(calls):
    return ask(calls)[-1]


def provinces(*kinds):
    return [(PROVINCE, kind) for kind in kinds]


def plain(count):
    """Inland provinces, each joined with each: an army moves, helps and stays wherever it likes."""
    return provinces(*[INLAND] * count) + [(LAND, p, q) for p, q in combinations(range(count), 2)]


def armies(powers):
    """Armies by their provinces, set in the order in which they stand."""
    return [(UNIT, power, ARMY, p, 0) for p, power in powers.items()]


def move(p, q):
    return (MOVE, p, q, 0, 0)


def by_water(p, q):
    return (MOVE, p, q, 0, 1)


def looks(*pairs):
    return [(LOOK, what, p) for what, p in pairs]


def known_after(calls):
    """The six kinds by their names, those left out of which nothing is known."""
    row = last(calls + [(KNOWN,)])
    names = ("goes", "fails", "way", "no way", "cut", "uncut")
    found = {}
    at = 1
    for name in names:
        end = at + 1 + row[at]
        if row[at] > 0:
            found[name] = row[at + 1:end]
        at = end
    if row[0] != 0 or at != len(row):
        raise AssertionError(f"no answer of known: {row}")
    return found


def bounds_after(calls, p):
    """Of a unit that moves: its attack, its wall, what it keeps others out with; of one that stands what holds."""
    row = last(calls + [(BOUNDS, p)])
    if row[0] != 0 or len(row) not in (3, 7):
        raise AssertionError(f"no answer of bounds: {row}")
    return list(zip(row[1::2], row[2::2]))


def table_after(calls):
    table = Table()
    for call in calls:
        answer_call(table, call[0], list(call[1:]))
    return table


def state(table):
    """All that a table holds, in a form that can be compared."""
    return (
        list(table.board.kinds),
        sorted(table.board.land_links),
        sorted(table.board.sea_links),
        [(u.power, u.fleet, u.province, u.shore, u.order) for u in table.units.values()],
        list(table.units),
        [sorted(kind) for kind in table.known.six_kinds()],
    )
