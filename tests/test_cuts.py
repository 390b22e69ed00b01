"""Promise 18 and look with what 0: supports that are surely cut, that may be cut, that can't be."""

import unittest

from tests.helper import (
    AID, ALL, ARMY, CARRY, COAST, FLEET, GONE, HOLD, LAND, LOOK, MOVE, OCEAN, SEA, STAY, SUPPORT, UNIT,
    armies, by_water, known_after, last, looks, move, plain, provinces, state, table_after)

# The unit in 0 is of power 0, as is the one in 1; those in 2, 3 and 4 are of power 1.
FIELD = plain(6) + armies({0: 0, 1: 0, 2: 1, 3: 1, 4: 1})

# Two coasts 0 and 1 with a sea 2 between; an army of power 1 in 0, one of power 0 in 1, a fleet that may carry.
# Province 3 is a coast that army 1 reaches by land, as it does 0.
SHORES = provinces(COAST, COAST, OCEAN, COAST, OCEAN) + [
    (LAND, 1, 3), (LAND, 0, 1), (SEA, 2, 0, 0, 0), (SEA, 2, 0, 1, 0), (SEA, 2, 0, 4, 0),
    (UNIT, 1, ARMY, 0, 0), (UNIT, 0, ARMY, 1, 0), (UNIT, 1, FLEET, 2, 0), by_water(0, 1), (CARRY, 2, 0, 1)]


class Support(unittest.TestCase):
    def told(self, calls, p=0):
        row = last(calls + [(SUPPORT, p)])
        self.assertEqual(row[0], 0)
        return tuple(row[1:])

    def test_refusals(self):
        self.assertEqual(last(FIELD + [(SUPPORT, 5)]), [-5])
        self.assertEqual(last(FIELD + [(SUPPORT, 6)]), [-1])
        self.assertEqual(last(FIELD + [(GONE, 0), (SUPPORT, 0)]), [-5])

    def test_nobody_moves_in(self):
        self.assertEqual(self.told(FIELD), (0, 0))
        self.assertEqual(self.told(FIELD + [(STAY, 0, 1), move(2, 5), (STAY, 3, 0), (AID, 4, 2, 0)]), (0, 0))
        self.assertEqual(self.told(FIELD + [(AID, 0, 1, 5), move(1, 5)]), (0, 0))

    def test_a_unit_of_the_same_power_moves_in(self):
        self.assertEqual(self.told(FIELD + [(STAY, 0, 2), move(1, 0)]), (0, 0))
        self.assertEqual(self.told(FIELD + [(AID, 0, 2, 5), move(1, 0)]), (0, 0))

    def test_a_unit_of_another_power_moves_in_whatever_the_order(self):
        for order in ((HOLD, 0), (STAY, 0, 1), (STAY, 0, 2), move(0, 5), move(0, 2), (AID, 0, 1, 5), (CARRY, 0, 1, 2)):
            self.assertEqual(self.told(FIELD + [order, move(2, 0)]), (1, 1), order)

    def test_one_of_several_is_enough(self):
        self.assertEqual(self.told(FIELD + [(STAY, 0, 5), move(1, 0), move(2, 0)]), (1, 1))
        self.assertEqual(self.told(FIELD + [(AID, 0, 1, 2), move(2, 0)]), (0, 1))
        self.assertEqual(self.told(FIELD + [(AID, 0, 1, 2), move(2, 0), move(3, 0)]), (1, 1))

    def test_from_the_aids_own_goal_with_nothing_known(self):
        self.assertEqual(self.told(FIELD + [(AID, 0, 1, 2), move(1, 2), move(2, 0)]), (0, 1))

    def test_from_the_province_that_the_aid_helps_it_surely_cuts(self):
        self.assertEqual(self.told(FIELD + [(AID, 0, 2, 5), move(2, 0)]), (1, 1))

    def test_from_the_aids_own_goal_known_to_go(self):
        calls = FIELD + [(AID, 0, 1, 2), move(2, 0), (AID, 3, 2, 0)] + looks((0, 3), (2, 2))
        self.assertEqual(known_after(calls), {"uncut": [3], "goes": [2]})
        self.assertEqual(self.told(calls), (1, 1))

    def test_from_the_aids_own_goal_known_not_to_go(self):
        calls = FIELD + [(AID, 0, 1, 2), move(2, 0)] + looks((2, 2))
        self.assertEqual(known_after(calls), {"fails": [2]})
        self.assertEqual(self.told(calls), (0, 0))

    def test_from_elsewhere_it_is_cut_though_the_move_is_known_not_to_go(self):
        for order in ((STAY, 0, 1), (AID, 0, 1, 5), (HOLD, 0)):
            calls = FIELD + [order, move(2, 0)] + looks((2, 2))
            self.assertEqual(known_after(calls), {"fails": [2]})
            self.assertEqual(self.told(calls), (1, 1))

    def test_a_stay_has_no_goal_that_shields_it(self):
        self.assertEqual(self.told(FIELD + [(STAY, 0, 2), move(2, 0)]), (1, 1))

    def test_an_aid_that_counts_as_hold_is_no_aid(self):
        for order in ((AID, 0, 0, 2), (AID, 0, 2, 2)):
            self.assertEqual(self.told(FIELD + [order, move(2, 0)]), (1, 1))

    def test_a_move_by_water(self):
        for order in ((HOLD, 1), (STAY, 1, 0), (AID, 1, 2, 3), move(1, 3)):
            calls = SHORES + [order]
            self.assertEqual(self.told(calls, 1), (0, 1))
            self.assertEqual(known_after(calls + looks((1, 0))), {"way": [0]})
            self.assertEqual(self.told(calls + looks((1, 0)), 1), (1, 1))
            calls = calls + [(HOLD, 2)]
            self.assertEqual(self.told(calls, 1), (0, 1))
            self.assertEqual(known_after(calls + looks((1, 0))), {"no way": [0]})
            self.assertEqual(self.told(calls + looks((1, 0)), 1), (0, 0))

    def test_a_move_by_water_from_the_aids_own_goal(self):
        calls = SHORES + [(AID, 1, 3, 0)]
        self.assertEqual(self.told(calls, 1), (0, 1))
        self.assertEqual(self.told(calls + looks((1, 0)), 1), (0, 1))
        self.assertEqual(self.told(calls + looks((1, 0), (2, 0)), 1), (0, 0))
        helped = calls + [(UNIT, 1, ARMY, 3, 0), (AID, 3, 0, 1)] + looks((0, 3), (1, 0), (2, 0))
        self.assertEqual(known_after(helped), {"uncut": [3], "way": [0], "goes": [0]})
        self.assertEqual(self.told(helped, 1), (1, 1))
        self.assertEqual(self.told(calls + [(HOLD, 2)] + looks((1, 0)), 1), (0, 0))

    def test_a_move_that_counts_as_hold_cuts_nothing(self):
        self.assertEqual(self.told(SHORES + [(LAND, 0, 3), (MOVE, 0, 2, 0, 0), (HOLD, 1)], 1), (0, 0))

    def test_of_a_fleet_that_carries(self):
        calls = SHORES + [(UNIT, 2, FLEET, 4, 0), move(4, 2)]
        self.assertEqual(self.told(calls, 2), (1, 1))
        self.assertEqual(self.told(SHORES + [(UNIT, 1, FLEET, 4, 0), move(4, 2)], 2), (0, 0))

    def test_it_only_tells(self):
        calls = FIELD + [(STAY, 0, 1), move(2, 0)]
        self.assertEqual(state(table_after(calls + [(SUPPORT, 0)])), state(table_after(calls)))
        self.assertEqual(known_after(calls + [(SUPPORT, 0)]), {})
        known = calls + [(ALL,)]
        self.assertEqual(state(table_after(known + [(SUPPORT, 0), (SUPPORT, 5)])), state(table_after(known)))


class LookAtSupport(unittest.TestCase):
    def looked(self, calls, p=0):
        """The answer, and what is known then."""
        calls = calls + [(LOOK, 0, p)]
        return last(calls), known_after(calls)

    def test_surely_cut(self):
        for order in ((STAY, 0, 1), (AID, 0, 1, 5)):
            self.assertEqual(self.looked(FIELD + [order, move(2, 0)]), ([0, 1], {"cut": [0]}))

    def test_it_cannot_be_cut(self):
        for order in ((STAY, 0, 1), (AID, 0, 1, 5)):
            self.assertEqual(self.looked(FIELD + [order, move(1, 0)]), ([0, 1], {"uncut": [0]}))

    def test_it_may_be_cut_and_nothing_becomes_known(self):
        self.assertEqual(self.looked(FIELD + [(AID, 0, 1, 2), move(2, 0)]), ([0, 0], {}))
        self.assertEqual(self.looked(SHORES + [(STAY, 1, 0)], 1), ([0, 0], {}))

    def test_what_becomes_known_of_the_move_decides_it(self):
        calls = FIELD + [(AID, 0, 1, 2), move(2, 0)] + looks((2, 2))
        self.assertEqual(self.looked(calls), ([0, 1], {"fails": [2], "uncut": [0]}))
        calls = FIELD + [(AID, 0, 1, 2), move(2, 0), (AID, 3, 2, 0)] + looks((0, 3), (2, 2))
        self.assertEqual(self.looked(calls), ([0, 1], {"goes": [2], "uncut": [3], "cut": [0]}))

    def test_a_support_that_is_not_apt_is_one_too(self):
        for order in ((STAY, 0, 5), (STAY, 0, 1), (AID, 0, 1, 5), (AID, 0, 5, 3)):
            calls = FIELD + [order, move(1, 2)]
            self.assertEqual(self.looked(calls), ([0, 1], {"uncut": [0]}))
            self.assertEqual(self.looked(calls + [move(4, 0)]), ([0, 1], {"cut": [0]}))

    def test_other_orders_have_none(self):
        for order in ((HOLD, 0), move(0, 5), (CARRY, 0, 1, 2), (STAY, 0, 0), (AID, 0, 0, 1)):
            self.assertEqual(self.looked(FIELD + [order]), ([0, 0], {}))
            self.assertEqual(self.looked(FIELD + [order, move(2, 0)]), ([0, 0], {}))
        self.assertEqual(self.looked(SHORES, 2), ([0, 0], {}))
        self.assertEqual(self.looked(SHORES, 0), ([0, 0], {}))

    def test_twice_at_the_same_thing(self):
        for order in (move(1, 0), move(2, 0)):
            calls = FIELD + [(STAY, 0, 1), order, (LOOK, 0, 0)]
            first = known_after(calls)
            self.assertEqual(self.looked(calls), ([0, 0], first))
