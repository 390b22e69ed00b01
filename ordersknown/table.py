"""A line of calls on one new table, handed in as one list and answered as one list."""

from ordersknown.calls import Table, do_call
from ordersknown.ranges import all_in_range, count_of_numbers, is_call

OUT_OF_RANGE = -1
NO_CALL = -8


def answers(calls):
    """For each call, in order: how many numbers are answered, then these."""
    table = Table()
    answered = []
    at = 0
    while at < len(calls):
        place = calls[at]
        end = at + 1 + count_of_numbers(place)
        row = answer_call(table, place, calls[at + 1:end])
        answered.append(len(row))
        answered.extend(row)
        at = end
    return answered


def answer_call(table, place, numbers):
    if not is_call(place, numbers):
        return [NO_CALL]
    # A call's own refusals index by its numbers, so the ranges come first.
    if not all_in_range(place, numbers, len(table.board.kinds)):
        return [OUT_OF_RANGE]
    return do_call(table, place, numbers)
