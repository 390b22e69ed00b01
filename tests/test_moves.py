"""Look with what 2: moves that surely go, that may go, that can't."""

import unittest

from tests.helper import (
    AID, ARMY, CARRY, COAST, FLEET, HOLD, LAND, LOOK, MOVE, OCEAN, PROVINCE, SEA, STAY, UNIT,
    armies, by_water, known_after, last, looks, move, plain, provinces)

FIELD = plain(8)

# Coasts 0, 1 and 3, a sea 2 between 0 and 1; by land 0-3 and 1-3. The army in 0 moves by water to 1.
WATER = provinces(COAST, COAST, OCEAN, COAST) + [
    (LAND, 0, 3), (LAND, 1, 3), (SEA, 2, 0, 0, 0), (SEA, 2, 0, 1, 0),
    (UNIT, 0, ARMY, 0, 0), (UNIT, 0, FLEET, 2, 0), by_water(0, 1), (CARRY, 2, 0, 1)]
DRY = WATER + [(HOLD, 2)]

GOES, FAILS, OPEN = "goes", "fails", None


class LookAtMove(unittest.TestCase):
    def look(self, calls, p=0):
        """What the look makes known, with its answer held against that."""
        before = known_after(calls)
        calls = calls + [(LOOK, 2, p)]
        after = known_after(calls)
        found = None
        for kind in (GOES, FAILS):
            if p in after.get(kind, []):
                self.assertNotIn(p, before.get(kind, []))
                after[kind].remove(p)
                found = kind
        self.assertEqual({kind: rest for kind, rest in after.items() if rest}, before)
        self.assertEqual(last(calls), [0, 1 if found else 0])
        return found

    def test_into_an_empty_province(self):
        self.assertEqual(self.look(FIELD + armies({0: 0}) + [move(0, 1)]), GOES)

    def test_of_a_fleet(self):
        calls = provinces(OCEAN, COAST) + [(SEA, 0, 1, 1, 2), (UNIT, 0, FLEET, 0, 1), (MOVE, 0, 1, 2, 0)]
        self.assertEqual(self.look(calls), GOES)
        self.assertEqual(self.look(calls + [(UNIT, 1, ARMY, 1, 0)]), FAILS)

    def test_against_a_unit_that_stands(self):
        two = FIELD + armies({0: 0, 1: 1, 2: 0, 3: 1, 4: 2}) + [move(0, 1)]
        self.assertEqual(self.look(two), FAILS)
        self.assertEqual(self.look(two + [(AID, 2, 0, 1)]), OPEN)
        self.assertEqual(self.look(two + [(AID, 2, 0, 1)] + looks((0, 2))), GOES)
        self.assertEqual(self.look(two + [(AID, 3, 0, 1)]), FAILS)
        self.assertEqual(self.look(two + [(AID, 2, 0, 1), move(4, 2)] + looks((0, 2))), FAILS)

    def test_against_one_that_is_helped_to_stay(self):
        calls = FIELD + armies({0: 0, 1: 1, 2: 0, 3: 1, 4: 2}) + [move(0, 1), (AID, 2, 0, 1), (STAY, 3, 1)]
        self.assertEqual(self.look(calls), OPEN)
        self.assertEqual(self.look(calls + looks((0, 2))), OPEN)
        self.assertEqual(self.look(calls + looks((0, 3))), FAILS)
        self.assertEqual(self.look(calls + [move(4, 3)] + looks((0, 3))), OPEN)
        self.assertEqual(self.look(calls + [move(4, 3)] + looks((0, 2), (0, 3))), GOES)

    def test_against_a_unit_of_the_same_power(self):
        calls = FIELD + armies({0: 0, 1: 0, 2: 0, 3: 1}) + [move(0, 1), (AID, 2, 0, 1), (AID, 3, 0, 1)]
        self.assertEqual(self.look(calls + looks((0, 2), (0, 3))), FAILS)

    def test_behind_a_unit_that_moves(self):
        for power in (0, 1):
            calls = FIELD + armies({0: 0, 1: power}) + [move(0, 1), move(1, 2)]
            self.assertEqual(self.look(calls), OPEN)
            self.assertEqual(self.look(calls + looks((2, 1))), GOES)
            blocked = calls + [(UNIT, 2, ARMY, 2, 0)] + looks((2, 1))
            self.assertEqual(self.look(blocked), FAILS)

    def test_helped_against_a_unit_that_may_have_left(self):
        calls = FIELD + armies({0: 0, 1: 1, 3: 0}) + [move(0, 1), move(1, 2), (AID, 3, 0, 1)] + looks((0, 3))
        self.assertEqual(self.look(calls), GOES)
        same = FIELD + armies({0: 0, 1: 0, 3: 0}) + [move(0, 1), move(1, 2), (AID, 3, 0, 1)] + looks((0, 3))
        self.assertEqual(self.look(same), OPEN)

    def test_a_ring_of_three_stays_open(self):
        calls = FIELD + armies({0: 0, 1: 1, 2: 2}) + [move(0, 1), move(1, 2), move(2, 0)]
        for p in range(3):
            self.assertEqual(self.look(calls, p), OPEN)

    def test_head_to_head(self):
        calls = FIELD + armies({0: 0, 1: 1, 2: 0, 3: 1}) + [move(0, 1), move(1, 0)]
        self.assertEqual(self.look(calls), FAILS)
        self.assertEqual(self.look(calls + [(AID, 2, 0, 1)]), OPEN)
        self.assertEqual(self.look(calls + [(AID, 2, 0, 1)] + looks((0, 2))), GOES)
        both = calls + [(AID, 2, 0, 1), (AID, 3, 1, 0)]
        self.assertEqual(self.look(both), OPEN)
        self.assertEqual(self.look(both + looks((0, 2))), OPEN)
        self.assertEqual(self.look(both + looks((0, 3))), FAILS)
        self.assertEqual(self.look(both + looks((0, 2), (0, 3))), FAILS)

    def test_two_into_one_goal(self):
        calls = FIELD + armies({0: 0, 1: 1, 2: 0, 3: 1}) + [move(0, 5), move(1, 5)]
        self.assertEqual(self.look(calls), FAILS)
        self.assertEqual(self.look(calls + [(AID, 2, 0, 5)]), OPEN)
        self.assertEqual(self.look(calls + [(AID, 2, 0, 5)] + looks((0, 2))), GOES)
        self.assertEqual(self.look(calls + [(AID, 2, 0, 5)], 1), FAILS)
        both = calls + [(AID, 2, 0, 5), (AID, 3, 1, 5)]
        self.assertEqual(self.look(both + looks((0, 2))), OPEN)
        self.assertEqual(self.look(both + looks((0, 3))), FAILS)

    def test_a_rival_of_the_same_power_keeps_out_too(self):
        self.assertEqual(self.look(FIELD + armies({0: 0, 1: 0}) + [move(0, 5), move(1, 5)]), FAILS)

    def test_a_rival_that_cannot_go_itself_keeps_out(self):
        # The unit in 2 is of the rival's own power, so the rival's attack is 0; it keeps others out with 1 all the same.
        calls = FIELD + armies({0: 0, 1: 1, 2: 1, 3: 0, 4: 0}) + [move(0, 2), move(1, 2), (AID, 3, 0, 2)]
        self.assertEqual(self.look(calls + looks((0, 3), (2, 1))), GOES)
        calls += [(UNIT, 1, ARMY, 5, 0), (AID, 5, 1, 2)]
        self.assertEqual(self.look(calls + looks((0, 3), (2, 1))), OPEN)
        self.assertEqual(self.look(calls + looks((0, 3), (0, 5), (2, 1))), FAILS)

    def test_a_third_is_looked_at_as_well(self):
        calls = FIELD + armies({0: 0, 1: 1, 2: 2, 3: 0, 4: 2}) + [move(0, 5), move(1, 5), move(2, 5)]
        calls += [(AID, 3, 0, 5), (AID, 4, 2, 5)]
        self.assertEqual(self.look(calls + looks((0, 3))), OPEN)
        self.assertEqual(self.look(calls + looks((0, 3), (0, 4))), FAILS)

    def test_a_rival_head_to_head_keeps_nobody_out_once_the_other_goes(self):
        # 1 and 2 are head to head, 2 is helped: behind that the move from 0 into 2 has no rival.
        calls = FIELD + armies({0: 0, 1: 1, 2: 2, 3: 2}) + [move(0, 2), move(1, 2), move(2, 1), (AID, 3, 2, 1)]
        self.assertEqual(self.look(calls), OPEN)
        self.assertEqual(self.look(calls + looks((0, 3), (2, 2))), GOES)

    def test_a_rival_head_to_head_keeps_others_out_once_the_other_fails(self):
        # With nothing known the rival's lower bound is 0; what fails here is the move from 2 into 1.
        calls = FIELD + armies({0: 0, 1: 1, 2: 2, 3: 0}) + [move(0, 2), move(1, 2), move(2, 1), (AID, 3, 1, 2)]
        self.assertEqual(self.look(calls), OPEN)
        self.assertEqual(known_after(calls + looks((2, 2))), {"fails": [2]})
        self.assertEqual(self.look(calls + looks((2, 2))), FAILS)

    def test_by_water(self):
        self.assertEqual(self.look(WATER), OPEN)
        self.assertEqual(self.look(WATER + looks((1, 0))), GOES)
        self.assertEqual(self.look(DRY), OPEN)
        self.assertEqual(self.look(DRY + looks((1, 0))), FAILS)

    def test_by_water_against_a_unit(self):
        calls = WATER + [(UNIT, 1, ARMY, 1, 0)]
        self.assertEqual(self.look(calls), FAILS)
        helped = calls + [(UNIT, 0, ARMY, 3, 0), (AID, 3, 0, 1)] + looks((0, 3))
        self.assertEqual(self.look(helped), OPEN)
        self.assertEqual(self.look(helped + looks((1, 0))), GOES)

    def test_a_rival_by_water(self):
        rival = [(UNIT, 1, ARMY, 3, 0), move(3, 1)]
        self.assertEqual(self.look(WATER + rival, 3), OPEN)
        self.assertEqual(self.look(WATER + rival + looks((1, 0)), 3), FAILS)
        self.assertEqual(self.look(DRY + rival + looks((1, 0)), 3), GOES)

    def test_two_armies_change_places_by_water(self):
        calls = WATER + [(PROVINCE, OCEAN), (SEA, 4, 0, 0, 0), (SEA, 4, 0, 1, 0), (UNIT, 1, FLEET, 4, 0)]
        calls += [(CARRY, 4, 1, 0), (UNIT, 1, ARMY, 1, 0), by_water(1, 0), (UNIT, 1, ARMY, 3, 0), (AID, 3, 1, 0)]
        ways = calls + looks((1, 0), (1, 1))
        self.assertEqual(known_after(ways), {"way": [0, 1]})
        self.assertEqual(self.look(ways, 0), OPEN)
        self.assertEqual(self.look(ways, 1), OPEN)
        self.assertEqual(self.look(ways + looks((0, 3)), 1), GOES)
        self.assertEqual(self.look(ways + looks((0, 3), (2, 1)), 0), GOES)

    def test_of_a_unit_that_stands(self):
        board = FIELD + armies({0: 0, 1: 1})
        for order in ((HOLD, 0), (STAY, 0, 1), (AID, 0, 1, 2), (CARRY, 0, 1, 2), move(0, 0)):
            self.assertEqual(self.look(board + [order]), OPEN)
        self.assertEqual(self.look(WATER, 2), OPEN)

    def test_twice_at_the_same_move(self):
        for powers in ({0: 0}, {0: 0, 1: 1}):
            calls = FIELD + armies(powers) + [move(0, 1), (LOOK, 2, 0)]
            known = known_after(calls)
            self.assertEqual(len(known), 1)
            self.assertEqual(last(calls + [(LOOK, 2, 0)]), [0, 0])
            self.assertEqual(known_after(calls + [(LOOK, 2, 0)]), known)
