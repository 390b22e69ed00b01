"""The list handed in, the list given back, and the numbers' ranges (-1)."""

import random
import unittest

from ordersknown.calls import Table
from ordersknown.table import answer_call, answers
from tests.helper import (
    AID, ALL, ARMY, BOUNDS, CARRY, CLEAR, COAST, COUNT, FLEET, FORGET, GONE, HOLD, INLAND, KNOWN, LAND, LEAST, LOOK,
    MOST, MOVE, OCEAN, PASS, PROVINCE, SEA, STAY, SUPPORT, UNIT, UNKNOWN,
    ask, flat, last, provinces, state, table_after)

# Provinces 0 and 1 are coasts, 2 is a sea, 3 is inland; armies in 0 and 3, a fleet in 2; 1 is free.
BOARD = provinces(COAST, COAST, OCEAN, INLAND) + [
    (LAND, 0, 1), (LAND, 0, 3), (SEA, 0, 0, 2, 0), (UNIT, 0, ARMY, 0, 0), (UNIT, 6, ARMY, 3, 0), (UNIT, 1, FLEET, 2, 0)]

# For each call that has numbers: one that is done on the board above, and how many numbers each range has.
GOOD = (
    ((PROVINCE, INLAND), (3,)),
    ((LAND, 1, 3), (4, 4)),
    ((SEA, 1, 0, 2, 0), (4, 4, 4, 4)),
    ((UNIT, 0, ARMY, 1, 0), (7, 2, 4, 4)),
    ((GONE, 0), (4,)),
    ((HOLD, 0), (4,)),
    ((MOVE, 0, 1, 0, 0), (4, 4, 4, 2)),
    ((STAY, 0, 1), (4, 4)),
    ((AID, 0, 3, 1), (4, 4, 4)),
    ((CARRY, 2, 0, 1), (4, 4, 4)),
    ((LOOK, 0, 3), (3, 4)),
    ((BOUNDS, 3), (4,)),
    ((SUPPORT, 3), (4,)),
)
WITHOUT_NUMBERS = ((CLEAR,), (FORGET,), (PASS,), (ALL,), (KNOWN,), (UNKNOWN,), (COUNT,))


def some_calls(seed):
    """A line of 400 calls, many of which are refused."""
    source = random.Random(seed)
    sizes = {call[0]: ranges for call, ranges in GOOD}
    calls = provinces(*[source.randrange(3) for n in range(12)])
    while len(calls) < 400:
        place = source.choice([PROVINCE] + [LAND, SEA, UNIT, UNIT, GONE, HOLD, MOVE, STAY, AID, CARRY, LOOK, BOUNDS,
                                            SUPPORT] * 3)
        numbers = [source.randrange(-1, 14) if size == 4 and source.randrange(3) else source.randrange(size)
                   for size in sizes[place]]
        calls.append((place, *numbers))
    calls[250:257] = WITHOUT_NUMBERS
    return calls


class Form(unittest.TestCase):
    def test_counts_stand_before_the_answers(self):
        calls = [0, 1, 0, 1, 2, 2, 0, 1, 4, 3, 0, 1, 0, 6, 1, 6, 0, 1, 9]
        self.assertEqual(answers(calls), [1, 0, 2, 0, 0, 2, 0, 1, 1, 0, 1, 0, 1, 0, 1, -5, 1, -1])

    def test_every_call_that_is_done_answers_0(self):
        told = {PROVINCE: [4], LOOK: [0], PASS: [0], ALL: [0], KNOWN: [0] * 6, BOUNDS: [1, 1], UNKNOWN: [0],
                SUPPORT: [0, 0], COUNT: [0]}
        calls = [call for call, ranges in GOOD] + list(WITHOUT_NUMBERS)
        self.assertEqual(sorted(call[0] for call in calls), list(range(20)))
        for call in calls:
            self.assertEqual(last(BOARD + [call]), [0] + told.get(call[0], []), call)

    def test_answers_are_plain_whole_numbers_in_a_list(self):
        answered = answers(flat(some_calls(1)))
        self.assertIs(type(answered), list)
        self.assertEqual({type(number) for number in answered}, {int})

    def test_one_call_alone(self):
        self.assertEqual(answers([0]), [1, 0])
        self.assertEqual(answers([1, 2]), [2, 0, 0])
        self.assertEqual(answers([1, 3]), [1, -1])

    def test_what_is_handed_in_is_not_changed(self):
        class Watched(list):
            def changed(self, *more):
                raise AssertionError("the list handed in was changed")

            append = extend = insert = pop = remove = clear = reverse = sort = changed
            __setitem__ = __delitem__ = __iadd__ = __imul__ = changed

        for seed in range(5):
            calls = flat(some_calls(seed))
            before = list(calls)
            watched = Watched(calls)
            self.assertEqual(answers(watched), answers(calls))
            self.assertEqual(calls, before)
            self.assertEqual(list(watched), before)

    def test_nothing_is_kept_from_one_time_to_the_next(self):
        first = ask(BOARD)
        self.assertEqual(ask(BOARD), first)
        self.assertEqual(ask([(HOLD, 0)]), [[-1]])
        self.assertEqual(ask([(PROVINCE, COAST)]), [[0, 0]])
        for seed in range(5):
            calls = flat(some_calls(seed))
            self.assertEqual(answers(calls), answers(calls))

    def test_what_is_given_back_is_new_each_time(self):
        first = answers([1, 0])
        first.append(7)
        self.assertEqual(answers([1, 0]), [2, 0, 0])


class NoCall(unittest.TestCase):
    """Such calls are not to be handed in; if they are, they're refused and nothing breaks."""

    def test_a_place_that_is_none(self):
        for place in (-1, 20, LEAST, MOST):
            for numbers in ([], [0], [0, 0]):
                self.assertEqual(answer_call(Table(), place, numbers), [-8])

    def test_another_count_of_numbers(self):
        for call in [call for call, ranges in GOOD] + list(WITHOUT_NUMBERS):
            table = table_after(BOARD)
            self.assertEqual(answer_call(table, call[0], list(call[1:]) + [0]), [-8])
            if len(call) > 1:
                self.assertEqual(answer_call(table, call[0], list(call[1:-1])), [-8])
            self.assertEqual(state(table), state(table_after(BOARD)))

    def test_in_a_list(self):
        self.assertEqual(answers([20, 1, 0, -3, 19]), [1, -8, 2, 0, 0, 1, -8, 2, 0, 0])
        self.assertEqual(answers([1, 0, 4, 0, 0]), [2, 0, 0, 1, -8])

    def test_it_is_looked_at_ahead_of_the_ranges(self):
        self.assertEqual(answer_call(table_after(BOARD), HOLD, [99, 0]), [-8])
        self.assertEqual(answer_call(table_after(BOARD), LAND, [99]), [-8])


class Ranges(unittest.TestCase):
    def test_each_number_outside_its_range_is_refused(self):
        before = state(table_after(BOARD))
        for call, ranges in GOOD:
            for k, size in enumerate(ranges, start=1):
                for wrong in (-1, size, LEAST, MOST):
                    bad = call[:k] + (wrong,) + call[k + 1:]
                    self.assertEqual(last(BOARD + [bad]), [-1], bad)
                    self.assertEqual(state(table_after(BOARD + [bad])), before, bad)

    def test_each_number_at_both_ends_of_its_range_is_in_it(self):
        for call, ranges in GOOD:
            for k, size in enumerate(ranges, start=1):
                for end in (0, size - 1):
                    good = call[:k] + (end,) + call[k + 1:]
                    self.assertNotEqual(last(BOARD + [good]), [-1], good)

    def test_without_provinces_no_number_is_a_province(self):
        for call, ranges in GOOD[1:]:
            numbers = tuple(0 for size in ranges)
            self.assertEqual(ask([(call[0],) + numbers]), [[-1]])

    def test_the_range_of_provinces_grows_with_the_board(self):
        self.assertEqual(ask(provinces(COAST) + [(UNIT, 0, 0, 1, 0), (PROVINCE, COAST), (UNIT, 0, 0, 1, 0)]),
                         [[0, 0], [-1], [0, 1], [0]])

    def test_the_range_ahead_of_every_other_refusal(self):
        full = provinces(*[COAST] * 40)
        self.assertEqual(last(full + [(PROVINCE, 3)]), [-1])
        cases = (
            (LAND, 9, 9), (LAND, 2, 4), (LAND, 4, 2),
            (SEA, 3, 4, 3, 0), (SEA, 3, 0, 2, 4), (SEA, 3, 0, 4, 0), (SEA, 0, 0, 2, -1),
            (UNIT, 7, ARMY, 2, 0), (UNIT, 0, ARMY, 0, 4), (UNIT, 0, 2, 0, 0), (UNIT, -1, FLEET, 3, 0),
            (MOVE, 1, 4, 0, 0), (MOVE, 1, 0, 4, 0), (MOVE, 1, 0, 0, 2), (MOVE, 1, -1, 0, 0),
            (STAY, 1, 4), (STAY, 1, -1), (AID, 1, 4, 0), (AID, 1, 0, 4), (AID, 1, -1, 0),
            (CARRY, 1, 4, 0), (CARRY, 1, 0, 4), (CARRY, 1, -1, 0), (LOOK, 3, 1), (LOOK, -1, 1),
        )
        for call in cases:
            self.assertEqual(last(BOARD + [call]), [-1], call)


class Refused(unittest.TestCase):
    def test_a_refused_call_changes_nothing(self):
        for seed in range(20):
            calls = some_calls(seed)
            rows = ask(calls)
            kept = [call for call, row in zip(calls, rows) if row[0] == 0]
            self.assertLess(len(kept), len(calls))
            self.assertEqual(ask(kept), [row for row in rows if row[0] == 0])
            self.assertEqual(state(table_after(kept)), state(table_after(calls)))

    def test_a_refusal_is_its_number_alone(self):
        met = set()
        for seed in range(20):
            for row in ask(some_calls(seed)):
                if row[0] < 0:
                    self.assertEqual(len(row), 1)
                    met.add(row[0])
        self.assertLessEqual({-1, -3, -4, -5}, met)
        self.assertLessEqual(met, {-1, -2, -3, -4, -5})
