"""What the tests share: calls by their names, and answers cut into rows."""

from ordersknown.calls import Table
from ordersknown.table import answer_call, answers

CLEAR, PROVINCE, LAND, SEA, UNIT, GONE, HOLD, MOVE, STAY, AID = range(10)

INLAND, OCEAN, COAST = range(3)
ARMY, FLEET = range(2)

LEAST = -1000000000000000000
MOST = 1000000000000000000


def flat(calls):
    return [number for call in calls for number in call]


def cut(answered):
    """The rows, each without its count; a count that doesn't fit fails."""
    rows = []
    at = 0
    while at < len(answered):
        end = at + 1 + answered[at]
        if answered[at] < 1 or end > len(answered):
            raise AssertionError(f"no row at {at} of {answered}")
        rows.append(answered[at + 1:end])
        at = end
    return rows


def ask(calls):
    return cut(answers(flat(calls)))


def last(calls):
    return ask(calls)[-1]


def provinces(*kinds):
    return [(PROVINCE, kind) for kind in kinds]


def table_after(calls):
    table = Table()
    for call in calls:
        answer_call(table, call[0], list(call[1:]))
    return table


def state(table):
    """All that a table holds, in a form that can be compared."""
    return (
        list(table.board.kinds),
        sorted(table.board.land_links),
        sorted(table.board.sea_links),
        [(u.power, u.fleet, u.province, u.shore, u.order) for u in table.units.values()],
        list(table.units),
    )
