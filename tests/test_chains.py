"""Look with what 1: chains of fleets, and fleets that are or may be driven out."""

import unittest
from itertools import combinations, permutations

from tests.helper import (
    AID, ARMY, CARRY, COAST, FLEET, HOLD, LAND, LOOK, MOVE, OCEAN, SEA, STAY, UNIT,
    by_water, known_after, last, looks, move, provinces)

# Coasts 0 and 1, seas 2, 3, 4 in a row between them, sea 5 beside 3, sea 6 beside 5. The army in 0 moves to 1.
ROW = provinces(COAST, COAST, OCEAN, OCEAN, OCEAN, OCEAN, OCEAN) + [
    (SEA, 0, 0, 2, 0), (SEA, 2, 0, 3, 0), (SEA, 3, 0, 4, 0), (SEA, 4, 0, 1, 0), (SEA, 3, 0, 5, 0), (SEA, 5, 0, 6, 0),
    (UNIT, 0, ARMY, 0, 0), by_water(0, 1)]


def fleets(*seas, power=0):
    """Fleets that carry the army from 0 to 1."""
    return [call for p in seas for call in ((UNIT, power, FLEET, p, 0), (CARRY, p, 0, 1))]


CHAIN = ROW + fleets(2, 3, 4)


class Ways(unittest.TestCase):
    def way(self, calls, p=0):
        """True, False, or None where nothing becomes known; the answer is held against that."""
        before = known_after(calls)
        calls = calls + [(LOOK, 1, p)]
        after = known_after(calls)
        found = None
        if p in after.get("way", []):
            found = True
        if p in after.get("no way", []):
            self.assertIsNone(found)
            found = False
        for kind, provinces_known in after.items():
            rest = [q for q in provinces_known if q != p or kind not in ("way", "no way")]
            self.assertEqual(rest, before.get(kind, []))
        self.assertEqual(last(calls), [0, 0 if found is None else 1])
        return found


class Chains(Ways):
    def test_of_one_fleet(self):
        one = provinces(COAST, COAST, OCEAN) + [(SEA, 0, 0, 2, 0), (SEA, 1, 0, 2, 0), (UNIT, 0, ARMY, 0, 0)]
        self.assertIs(self.way(one + [by_water(0, 1)] + fleets(2)), True)
        self.assertIs(self.way(one + [by_water(0, 1), (UNIT, 0, FLEET, 2, 0)]), False)

    def test_of_no_fleet(self):
        self.assertIs(self.way(ROW), False)
        joined = provinces(COAST, COAST) + [(SEA, 0, 0, 1, 0), (LAND, 0, 1), (UNIT, 0, ARMY, 0, 0), by_water(0, 1)]
        self.assertIs(self.way(joined), False)

    def test_of_several_fleets(self):
        self.assertIs(self.way(CHAIN), True)
        for seas in permutations((2, 3, 4)):
            self.assertIs(self.way(ROW + fleets(*seas)), True)

    def test_no_fleet_of_the_row_may_be_missing(self):
        for seas in combinations((2, 3, 4), 2):
            self.assertIs(self.way(ROW + fleets(*seas)), False)

    def test_fleets_aside_do_no_harm(self):
        self.assertIs(self.way(CHAIN + fleets(5, 6)), True)
        self.assertIs(self.way(ROW + fleets(6, 5, 4, 3, 2)), True)

    def test_fleets_of_whatever_power(self):
        self.assertIs(self.way(ROW + fleets(2) + fleets(3, power=4) + fleets(4, power=6)), True)

    def test_every_fleet_must_carry_this_very_army(self):
        for order in ((HOLD, 3), (CARRY, 3, 1, 0), (CARRY, 3, 0, 2), (CARRY, 3, 2, 1), (CARRY, 3, 0, 0), (STAY, 3, 2)):
            self.assertIs(self.way(CHAIN + [order]), False)

    def test_a_fleet_in_a_coast_carries_nobody(self):
        board = provinces(COAST, COAST, COAST) + [(SEA, 0, 0, 2, 0), (SEA, 2, 0, 1, 0), (UNIT, 0, ARMY, 0, 0)]
        self.assertIs(self.way(board + [by_water(0, 1)] + fleets(2)), False)

    def test_links_of_land_join_no_fleet(self):
        board = provinces(COAST, COAST, OCEAN) + [(SEA, 0, 0, 2, 0), (LAND, 0, 1), (UNIT, 0, ARMY, 0, 0)]
        self.assertIs(self.way(board + [by_water(0, 1)] + fleets(2)), False)

    def test_a_fleet_is_joined_with_a_province_at_whatever_shore(self):
        for s in range(4):
            for t in range(4):
                board = provinces(COAST, COAST, OCEAN) + [(SEA, 0, s, 2, 2), (SEA, 2, 2, 1, t), (UNIT, 0, ARMY, 0, 0)]
                carrier = [(UNIT, 0, FLEET, 2, 2), (CARRY, 2, 0, 1)]
                self.assertIs(self.way(board + [by_water(0, 1)] + carrier), True)

    def test_but_only_from_its_own_place(self):
        board = provinces(COAST, COAST, OCEAN) + [(SEA, 0, 0, 2, 0), (SEA, 2, 1, 1, 0), (UNIT, 0, ARMY, 0, 0)]
        for s in range(4):
            carrier = [(UNIT, 0, FLEET, 2, s), (CARRY, 2, 0, 1)]
            self.assertIs(self.way(board + [by_water(0, 1)] + carrier), False)

    def test_two_fleets_are_joined_by_their_places_alone(self):
        board = provinces(COAST, COAST, OCEAN, OCEAN) + [
            (SEA, 0, 0, 2, 0), (SEA, 3, 0, 1, 0), (UNIT, 0, ARMY, 0, 0), by_water(0, 1)] + fleets(2, 3)
        self.assertIs(self.way(board), False)
        for s in range(4):
            for t in range(4):
                self.assertIs(self.way(board + [(SEA, 2, s, 3, t)]), s == 0 and t == 0)

    def test_the_way_back_is_another(self):
        calls = ROW + [(UNIT, 1, ARMY, 1, 0), by_water(1, 0)] + fleets(2, 3, 4)
        self.assertIs(self.way(calls, 0), True)
        self.assertIs(self.way(calls, 1), False)

    def test_of_a_move_that_is_not_by_water(self):
        board = CHAIN + [(LAND, 0, 1)]
        for order in (move(0, 1), (HOLD, 0), (STAY, 0, 1), (MOVE, 0, 2, 0, 1), (AID, 0, 2, 1)):
            self.assertIsNone(self.way(board + [order]))
        self.assertIsNone(self.way(board, 2))
        self.assertIs(self.way(board), True)

    def test_twice_at_the_same_way(self):
        for calls in (CHAIN, ROW):
            once = calls + [(LOOK, 1, 0)]
            self.assertEqual(last(once), [0, 1])
            self.assertEqual(last(once + [(LOOK, 1, 0)]), [0, 0])
            self.assertEqual(known_after(once + [(LOOK, 1, 0)]), known_after(once))


class DrivenOut(Ways):
    """The fleet in 5, of power 1, moves into 3, where a fleet of power 0 carries."""

    ATTACKED = CHAIN + [(UNIT, 1, FLEET, 5, 0), move(5, 3)]

    def test_it_may_be_while_the_move_is_open(self):
        self.assertIsNone(self.way(self.ATTACKED))

    def test_it_is_not_where_the_move_fails(self):
        calls = self.ATTACKED + looks((2, 5))
        self.assertEqual(known_after(calls), {"fails": [5]})
        self.assertIs(self.way(calls), True)

    def test_it_surely_is_where_the_move_goes(self):
        # Sea 6 touches 3 too, so that the fleet there helps.
        calls = self.ATTACKED + [(SEA, 6, 0, 3, 0), (UNIT, 1, FLEET, 6, 0), (AID, 6, 5, 3)]
        self.assertIsNone(self.way(calls))
        calls += looks((0, 6), (2, 5))
        self.assertEqual(known_after(calls), {"uncut": [6], "goes": [5]})
        self.assertIs(self.way(calls), False)

    def test_by_a_fleet_of_its_own_power_too(self):
        calls = CHAIN + [(UNIT, 0, FLEET, 5, 0), move(5, 3)]
        self.assertIsNone(self.way(calls))
        self.assertIs(self.way(calls + looks((2, 5))), True)

    def test_one_of_two_moves_open_is_enough(self):
        calls = self.ATTACKED + [(SEA, 6, 0, 3, 0), (UNIT, 1, FLEET, 6, 0), move(6, 3)]
        self.assertIsNone(self.way(calls + looks((2, 5))))
        self.assertIsNone(self.way(calls + looks((2, 6))))
        self.assertIs(self.way(calls + looks((2, 5), (2, 6))), True)

    def test_another_chain_around_it(self):
        # Sea 6 is joined with 2 and 4, so the fleets in 2, 6 and 4 are a chain without 3.
        around = [(SEA, 6, 0, 2, 0), (SEA, 6, 0, 4, 0)]
        self.assertIs(self.way(self.ATTACKED + around + fleets(6)), True)
        self.assertIsNone(self.way(self.ATTACKED + around))

    def test_another_chain_when_one_is_surely_driven_out(self):
        calls = self.ATTACKED + [(SEA, 6, 0, 3, 0), (UNIT, 1, FLEET, 6, 0), (AID, 6, 5, 3)]
        calls += provinces(OCEAN) + [(SEA, 7, 0, 2, 0), (SEA, 7, 0, 4, 0)] + fleets(7)
        self.assertIs(self.way(calls + looks((0, 6), (2, 5))), True)

    def test_a_chain_of_one_attacked_and_one_attacked_elsewhere(self):
        # Two chains, each with a fleet that may be driven out: none is sure, and none is out of reach.
        calls = self.ATTACKED + provinces(OCEAN, OCEAN) + [
            (SEA, 7, 0, 2, 0), (SEA, 7, 0, 4, 0), (SEA, 7, 0, 8, 0), (UNIT, 1, FLEET, 8, 0), move(8, 7)] + fleets(7)
        self.assertIsNone(self.way(calls))
        self.assertIs(self.way(calls + looks((2, 8))), True)

    def test_a_fleet_that_is_missing_is_no_fleet_that_may_be_driven_out(self):
        calls = ROW + fleets(2, 3) + [(UNIT, 1, FLEET, 5, 0), move(5, 3)]
        self.assertIs(self.way(calls), False)

    def test_a_move_into_another_sea_drives_nobody_out_of_this_one(self):
        self.assertIs(self.way(CHAIN + [(UNIT, 1, FLEET, 5, 0), move(5, 6)]), True)

    def test_a_cut_is_not_enough_to_stop_it(self):
        calls = self.ATTACKED + looks((2, 5), (1, 0), (2, 0))
        self.assertEqual(known_after(calls), {"fails": [5], "way": [0], "goes": [0]})

    def test_an_army_whose_way_hangs_on_its_own_move(self):
        # The army would cut the aid in 1, by which the fleet in 3 drives out the one that carries it: open for good.
        calls = provinces(COAST, COAST, OCEAN, OCEAN) + [
            (SEA, 0, 0, 2, 0), (SEA, 2, 0, 1, 0), (SEA, 2, 0, 3, 0), (UNIT, 0, ARMY, 0, 0), (UNIT, 0, FLEET, 2, 0),
            by_water(0, 1), (CARRY, 2, 0, 1), (UNIT, 1, FLEET, 3, 0), (UNIT, 1, FLEET, 1, 0), move(3, 2), (AID, 1, 3, 2)]
        every = looks(*[(what, p) for what in range(3) for p in (0, 1, 3)])
        self.assertEqual(known_after(calls + every[:6]), {})
        self.assertEqual(known_after(calls + every), {"fails": [0]})
        self.assertIsNone(self.way(calls + every))
