"""Promises 11 to 14 and the calls known, unknown, count; and what makes nothing known any more."""

import unittest

from tests.helper import (
    AID, ALL, ARMY, BOUNDS, CARRY, CLEAR, COAST, COUNT, FLEET, FORGET, GONE, HOLD, INLAND, KNOWN, LAND, LOOK, OCEAN,
    PASS, PROVINCE, SEA, STAY, SUPPORT, UNIT, UNKNOWN,
    armies, ask, by_water, known_after, last, looks, move, plain, provinces, state, table_after)

FIELD = plain(6)

# All six kinds become known: 0 goes to the empty 9; 1 fails against 2; 3 has a way to 4 (where a unit stands),
# 5 has none to 3; the stay in 6 is cut by the move from 7, the stay in 8 isn't.
SIX = provinces(*[COAST] * 10 + [OCEAN]) + [
    (LAND, 0, 9), (LAND, 1, 2), (LAND, 6, 7), (LAND, 8, 2), (LAND, 6, 2),
    (SEA, 10, 0, 3, 0), (SEA, 10, 0, 4, 0)] + armies({9 - k: k % 7 for k in range(1, 10)}) + [
    (UNIT, 0, FLEET, 10, 0), (CARRY, 10, 3, 4), move(0, 9), move(1, 2), by_water(3, 4), by_water(5, 3),
    (STAY, 6, 2), move(7, 6), (STAY, 8, 2)]


class Look(unittest.TestCase):
    def test_refusals(self):
        board = FIELD + armies({0: 0})
        for what in range(3):
            self.assertEqual(last(board + [(LOOK, what, 0)]), [0, 0])
            self.assertEqual(last(board + [(LOOK, what, 1)]), [-5])
            self.assertEqual(last(board + [(LOOK, what, 6)]), [-1])
            self.assertEqual(last(board + [(LOOK, what, -1)]), [-1])
        self.assertEqual(last(board + [(LOOK, 3, 0)]), [-1])
        self.assertEqual(last(board + [(LOOK, -1, 0)]), [-1])
        self.assertEqual(last(board + [(LOOK, 3, 1)]), [-1])

    def test_a_refused_look_changes_nothing(self):
        calls = SIX + [(ALL,)]
        for call in ((LOOK, 0, 9), (LOOK, 3, 0), (LOOK, 2, 11)):
            self.assertLess(last(calls + [call])[0], 0)
            self.assertEqual(state(table_after(calls + [call])), state(table_after(calls)))

    def test_each_what_looks_at_its_own_thing_alone(self):
        told = {0: {6: "cut", 8: "uncut"}, 1: {3: "way", 5: "no way"},
                2: {0: "goes", 1: "fails", 3: "fails", 7: "fails"}}
        for what in range(3):
            for p in [q for q in range(11) if q != 9]:
                kind = told[what].get(p)
                calls = SIX + [(LOOK, what, p)]
                self.assertEqual(last(calls), [0, 0 if kind is None else 1], (what, p))
                self.assertEqual(known_after(calls), {} if kind is None else {kind: [p]}, (what, p))

    def test_in_any_order(self):
        calls = SIX + looks((1, 5), (1, 3), (2, 5), (2, 3), (0, 8), (2, 7), (0, 6), (2, 1), (2, 0))
        self.assertEqual(known_after(calls), known_after(SIX + [(ALL,)]))

    def test_things_looked_at_too_early_stay_open(self):
        calls = FIELD + armies({0: 0, 1: 1}) + [move(0, 1), move(1, 2)]
        self.assertEqual(ask(calls + looks((2, 0), (2, 1), (2, 0)))[-3:], [[0, 0], [0, 1], [0, 1]])


class Pass(unittest.TestCase):
    def column(self, provinces_in_order):
        """Each army moves to the next province; only the last one finds its goal empty."""
        return FIELD + armies({p: p for p in provinces_in_order}) + [move(p, p + 1) for p in range(5)]

    def test_in_the_order_in_which_the_units_were_set(self):
        self.assertEqual(last(self.column([4, 3, 2, 1, 0]) + [(PASS,)]), [0, 5])
        forward = self.column([0, 1, 2, 3, 4])
        self.assertEqual(ask(forward + [(PASS,)] * 6)[-6:], [[0, 1]] * 5 + [[0, 0]])
        self.assertEqual(known_after(forward + [(PASS,)] * 2), {"goes": [3, 4]})
        self.assertEqual(ask(self.column([0, 2, 1, 4, 3]) + [(PASS,)] * 4)[-4:], [[0, 2], [0, 2], [0, 1], [0, 0]])

    def test_gone_and_set_again_a_unit_stands_last(self):
        calls = self.column([4, 3, 2, 1, 0]) + [(GONE, 4), (UNIT, 4, ARMY, 4, 0), move(4, 5)]
        self.assertEqual(ask(calls + [(PASS,)] * 3)[-3:], [[0, 1], [0, 4], [0, 0]])

    def test_a_new_order_leaves_a_unit_where_it_stood(self):
        calls = self.column([4, 3, 2, 1, 0]) + [(HOLD, 4), move(4, 5)]
        self.assertEqual(last(calls + [(PASS,)]), [0, 5])

    def test_a_refused_unit_leaves_the_order(self):
        calls = self.column([4, 3, 2, 1, 0]) + [(UNIT, 4, ARMY, 4, 0)]
        self.assertEqual(last(calls + [(PASS,)]), [0, 5])

    def test_each_unit_for_0_then_1_then_2_ahead_of_the_next(self):
        # The helper in 2 is set behind the mover: only the second pass knows of it when it comes to the move.
        behind = FIELD + armies({0: 0, 1: 1, 2: 0}) + [move(0, 1), (AID, 2, 0, 1)]
        self.assertEqual(ask(behind + [(PASS,)] * 3)[-3:], [[0, 1], [0, 1], [0, 0]])
        ahead = FIELD + armies({2: 0, 0: 0, 1: 1}) + [move(0, 1), (AID, 2, 0, 1)]
        self.assertEqual(ask(ahead + [(PASS,)] * 2)[-2:], [[0, 2], [0, 0]])

    def test_a_way_ahead_of_its_move(self):
        calls = provinces(COAST, COAST, OCEAN) + [
            (SEA, 0, 0, 2, 0), (SEA, 1, 0, 2, 0), (UNIT, 0, ARMY, 0, 0), (UNIT, 0, FLEET, 2, 0), by_water(0, 1)]
        carried = calls + [(CARRY, 2, 0, 1), (PASS,)]
        self.assertEqual(last(carried), [0, 2])
        self.assertEqual(known_after(carried), {"goes": [0], "way": [0]})
        self.assertEqual(last(calls + [(PASS,)]), [0, 2])
        self.assertEqual(known_after(calls + [(PASS,)]), {"fails": [0], "no way": [0]})

    def test_with_nothing_to_look_at(self):
        self.assertEqual(ask([(PASS,), (PROVINCE, INLAND), (PASS,)]), [[0, 0], [0, 0], [0, 0]])
        self.assertEqual(last(FIELD + armies({0: 0, 1: 1}) + [(PASS,)]), [0, 0])

    def test_only_what_is_new_is_counted(self):
        calls = self.column([4, 3, 2, 1, 0]) + looks((2, 4), (2, 3))
        self.assertEqual(last(calls + [(PASS,)]), [0, 3])


class All(unittest.TestCase):
    def test_until_a_pass_makes_nothing_known(self):
        column = FIELD + armies({p: p for p in range(5)}) + [move(p, p + 1) for p in range(5)]
        self.assertEqual(last(column + [(ALL,)]), [0, 5])
        self.assertEqual(known_after(column + [(ALL,)]), {"goes": [0, 1, 2, 3, 4]})
        self.assertEqual(ask(column + [(ALL,), (ALL,), (PASS,)])[-3:], [[0, 5], [0, 0], [0, 0]])
        self.assertEqual(ask(column + [(PASS,), (PASS,), (ALL,)])[-3:], [[0, 1], [0, 1], [0, 3]])

    def test_the_same_as_passes_one_behind_the_other(self):
        self.assertEqual(known_after(SIX + [(ALL,)]), known_after(SIX + [(PASS,)] * 12))

    def test_what_stays_open_stays_open(self):
        ring = FIELD + armies({0: 0, 1: 1, 2: 2, 3: 3}) + [move(0, 1), move(1, 2), move(2, 0), (STAY, 3, 4)]
        self.assertEqual(last(ring + [(ALL,)]), [0, 1])
        self.assertEqual(known_after(ring + [(ALL,)]), {"uncut": [3]})

    def test_with_nothing_to_look_at(self):
        self.assertEqual(ask([(ALL,)]), [[0, 0]])
        self.assertEqual(last(FIELD + armies({0: 0}) + [(ALL,)]), [0, 0])

    def test_a_longest_column(self):
        calls = provinces(*[INLAND] * 25) + [(LAND, p, p + 1) for p in range(24)]
        calls += armies({p: p % 7 for p in range(24)}) + [move(p, p + 1) for p in range(24)]
        self.assertEqual(last(calls + [(ALL,)]), [0, 24])


class Told(unittest.TestCase):
    def test_known_with_nothing_known(self):
        self.assertEqual(ask([(KNOWN,)]), [[0, 0, 0, 0, 0, 0, 0]])
        self.assertEqual(last(SIX + [(KNOWN,)]), [0, 0, 0, 0, 0, 0, 0])

    def test_known_of_all_six_kinds_in_their_order(self):
        self.assertEqual(last(SIX + [(ALL,), (KNOWN,)]), [0, 1, 0, 4, 1, 3, 5, 7, 1, 3, 1, 5, 1, 6, 1, 8])

    def test_known_rises_by_province_whatever_was_looked_at_first(self):
        calls = FIELD + armies({5: 0, 1: 0, 3: 0, 0: 0, 4: 1}) + [(STAY, p, 2) for p in (5, 1, 3, 0, 4)]
        for order in ((5, 1, 3, 0, 4), (0, 1, 3, 4, 5), (3, 5, 4, 1, 0)):
            told = calls + looks(*[(0, p) for p in order]) + [(KNOWN,)]
            self.assertEqual(last(told), [0, 0, 0, 0, 0, 0, 5, 0, 1, 3, 4, 5])

    def test_unknown(self):
        self.assertEqual(ask([(UNKNOWN,)]), [[0, 0]])
        self.assertEqual(last(FIELD + armies({0: 0}) + [(UNKNOWN,)]), [0, 0])
        self.assertEqual(last(SIX + [(UNKNOWN,)]), [0, 5, 0, 1, 3, 5, 7])
        self.assertEqual(last(SIX + looks((2, 1), (1, 5), (1, 3), (0, 6)) + [(UNKNOWN,)]), [0, 4, 0, 3, 5, 7])
        self.assertEqual(last(SIX + looks((2, 0), (2, 7)) + [(UNKNOWN,)]), [0, 3, 1, 3, 5])
        self.assertEqual(last(SIX + [(ALL,), (UNKNOWN,)]), [0, 0])

    def test_unknown_rises_by_province_whatever_was_set_first(self):
        ring = FIELD + armies({4: 0, 0: 1, 2: 2}) + [move(0, 2), move(2, 4), move(4, 0), (ALL,)]
        self.assertEqual(last(ring + [(UNKNOWN,)]), [0, 3, 0, 2, 4])

    def test_a_move_that_counts_as_hold_is_no_move(self):
        self.assertEqual(last(FIELD + armies({0: 0}) + [move(0, 0), (UNKNOWN,)]), [0, 0])

    def test_count(self):
        self.assertEqual(ask([(COUNT,)]), [[0, 0]])
        calls = SIX + looks((2, 0), (0, 8), (1, 3), (0, 8)) + [(COUNT,)]
        self.assertEqual(last(calls), [0, 3])
        self.assertEqual(last(SIX + [(ALL,), (COUNT,)]), [0, 9])

    def test_these_calls_only_tell(self):
        for known in (SIX, SIX + [(PASS,)], SIX + [(ALL,)]):
            before = state(table_after(known))
            for call in ((KNOWN,), (UNKNOWN,), (COUNT,), (BOUNDS, 0), (BOUNDS, 2), (SUPPORT, 6)):
                self.assertEqual(last(known + [call])[0], 0)
                self.assertEqual(state(table_after(known + [call])), before)


class Forgotten(unittest.TestCase):
    # One call of each of the places 0 to 10 that is done on the board, and one or more that are refused.
    DONE = ((CLEAR,), (PROVINCE, OCEAN), (LAND, 0, 1), (SEA, 10, 0, 5, 0), (UNIT, 0, ARMY, 9, 0), (GONE, 2), (HOLD, 4),
            move(0, 9), (STAY, 8, 2), (AID, 4, 0, 1), (CARRY, 10, 3, 4))
    REFUSED = ((PROVINCE, 3), (LAND, 0, 9), (LAND, 0, 0), (SEA, 10, 0, 3, 0), (SEA, 3, 0, 3, 0), (UNIT, 0, ARMY, 0, 0),
               (UNIT, 0, ARMY, 10, 0), (GONE, 9), (HOLD, 9), (HOLD, 11), move(9, 0), move(0, 11), (STAY, 9, 2),
               (AID, 9, 0, 1), (AID, 0, 1, 11), (CARRY, 9, 3, 4), (CARRY, 10, 3, 11), (BOUNDS, 9), (SUPPORT, 9))

    def test_forget(self):
        self.assertEqual(ask([(FORGET,), (FORGET,)]), [[0], [0]])
        calls = SIX + [(ALL,), (FORGET,)]
        self.assertEqual(last(calls), [0])
        self.assertEqual(state(table_after(calls)), state(table_after(SIX)))
        self.assertEqual(ask(calls + [(KNOWN,), (COUNT,)])[-2:], [[0] * 7, [0, 0]])
        self.assertEqual(known_after(calls + [(ALL,)]), known_after(SIX + [(ALL,)]))

    def test_every_done_call_of_0_to_10_makes_nothing_known_any_more(self):
        self.assertEqual([call[0] for call in self.DONE], list(range(11)))
        for call in self.DONE:
            rows = ask(SIX + [(ALL,), (COUNT,), call, (COUNT,), (KNOWN,)])
            self.assertEqual(rows[-4], [0, 9], call)
            self.assertEqual(rows[-3][0], 0, call)
            self.assertEqual(rows[-2:], [[0, 0], [0] * 7], call)

    def test_the_same_order_given_again_does_so_too(self):
        column = FIELD + armies({0: 0, 1: 1}) + [move(0, 1), move(1, 2), (ALL,)]
        self.assertEqual(known_after(column), {"goes": [0, 1]})
        self.assertEqual(known_after(column + [move(0, 1)]), {})

    def test_a_refused_call_leaves_what_is_known(self):
        for call in self.REFUSED:
            calls = SIX + [(ALL,)]
            self.assertLess(last(calls + [call])[0], 0, call)
            self.assertEqual(state(table_after(calls + [call])), state(table_after(calls)), call)

    def test_a_full_table_leaves_what_is_known(self):
        full = provinces(*[INLAND] * 40) + [(LAND, 0, 1)] + armies({p: p % 7 for p in range(2, 25)})
        full += [(UNIT, 0, ARMY, 0, 0), move(0, 1), (ALL,)]
        self.assertEqual(known_after(full), {"goes": [0]})
        for call in ((PROVINCE, INLAND), (UNIT, 0, ARMY, 30, 0)):
            self.assertEqual(last(full + [call]), [-2])
            self.assertEqual(known_after(full + [call]), {"goes": [0]})

    def test_what_is_known_then_is_of_the_new_orders(self):
        calls = FIELD + armies({0: 0, 1: 1}) + [move(0, 1), (ALL,)]
        self.assertEqual(known_after(calls), {"fails": [0]})
        self.assertEqual(known_after(calls + [(GONE, 1), (ALL,)]), {"goes": [0]})
        self.assertEqual(known_after(calls + [(STAY, 0, 1), (ALL,)]), {"uncut": [0]})
        self.assertEqual(known_after(calls + [move(1, 2), (ALL,)]), {"goes": [0, 1]})
