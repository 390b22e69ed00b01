"""Promise 16: what holds, attack, wall and what a move keeps others out with, lower and upper bound each."""

import unittest

from tests.helper import (
    AID, ALL, ARMY, BOUNDS, CARRY, COAST, FLEET, GONE, HOLD, LAND, OCEAN, SEA, STAY, UNIT,
    armies, bounds_after, by_water, known_after, last, looks, move, plain, provinces, state, table_after)

FIELD = plain(8)

# Coasts 0, 1, 3 and 4 and a sea 2 between all of them; by land 0-3 and 1-3, 1-4.
# The army in 0 moves by water to 1, the fleet in 2 carries it.
WATER = provinces(COAST, COAST, OCEAN, COAST, COAST) + [
    (LAND, 0, 3), (LAND, 1, 3), (LAND, 1, 4), (SEA, 2, 0, 0, 0), (SEA, 2, 0, 1, 0),
    (UNIT, 0, ARMY, 0, 0), (UNIT, 0, FLEET, 2, 0), by_water(0, 1), (CARRY, 2, 0, 1)]
DRY = WATER + [(HOLD, 2)]


class Bounds(unittest.TestCase):
    def attack(self, calls, p=0):
        return bounds_after(calls, p)[0]

    def wall(self, calls, p=0):
        return bounds_after(calls, p)[1]

    def keeps_out(self, calls, p=0):
        return bounds_after(calls, p)[2]

    def holds(self, calls, p=0):
        found = bounds_after(calls, p)
        self.assertEqual(len(found), 1)
        return found[0]


class Answer(Bounds):
    def test_refusals(self):
        calls = FIELD + armies({0: 0})
        self.assertEqual(last(calls + [(BOUNDS, 1)]), [-5])
        self.assertEqual(last(calls + [(BOUNDS, 8)]), [-1])
        self.assertEqual(last(calls + [(GONE, 0), (BOUNDS, 0)]), [-5])

    def test_of_a_unit_that_stands(self):
        calls = FIELD + armies({0: 0, 1: 0})
        for order in ((HOLD, 0), (STAY, 0, 1), (AID, 0, 1, 2), (CARRY, 0, 1, 2), move(0, 0)):
            self.assertEqual(last(calls + [order, (BOUNDS, 0)]), [0, 1, 1])
        self.assertEqual(last(WATER + [(BOUNDS, 2)]), [0, 1, 1])

    def test_of_a_unit_that_moves(self):
        calls = FIELD + armies({0: 0, 1: 1, 2: 2, 3: 3, 4: 0})
        calls += [move(0, 1), (AID, 2, 0, 1), (AID, 4, 0, 1), (STAY, 3, 1)]
        self.assertEqual(last(calls + [(BOUNDS, 0)]), [0, 1, 3, 1, 2, 1, 3])

    def test_it_only_tells(self):
        calls = FIELD + armies({0: 0, 1: 1}) + [move(0, 1), (STAY, 1, 0), (ALL,)]
        told = calls + [(BOUNDS, 0), (BOUNDS, 1), (BOUNDS, 2)]
        self.assertEqual(state(table_after(told)), state(table_after(calls)))


class Holds(Bounds):
    FIVE = FIELD + armies({0: 0, 1: 0, 2: 1, 3: 2, 4: 3})

    def test_alone(self):
        self.assertEqual(self.holds(self.FIVE), (1, 1))

    def test_with_units_of_whatever_power_that_help_it_to_stay(self):
        calls = self.FIVE + [(STAY, 1, 0)]
        self.assertEqual(self.holds(calls), (1, 2))
        self.assertEqual(self.holds(calls + [(STAY, 2, 0), (STAY, 3, 0)]), (1, 4))

    def test_a_support_known_not_to_be_cut_counts_below_too(self):
        calls = self.FIVE + [(STAY, 1, 0), (STAY, 2, 0)]
        self.assertEqual(self.holds(calls + looks((0, 1))), (2, 3))
        self.assertEqual(self.holds(calls + looks((0, 1), (0, 2))), (3, 3))

    def test_a_support_known_to_be_cut_does_not_count_above(self):
        calls = self.FIVE + [(STAY, 1, 0), (STAY, 2, 0), move(4, 1)]
        self.assertEqual(self.holds(calls), (1, 3))
        self.assertEqual(self.holds(calls + looks((0, 1))), (1, 2))
        self.assertEqual(self.holds(calls + looks((0, 1), (0, 2))), (2, 2))

    def test_other_orders_do_not_help_it_to_stay(self):
        calls = self.FIVE + [(STAY, 1, 2), (AID, 2, 0, 5), (AID, 3, 5, 0), (HOLD, 4)]
        self.assertEqual(self.holds(calls), (1, 1))

    def test_the_unit_that_helps_need_not_be_the_only_thing_it_stands_for(self):
        for order in ((STAY, 0, 5), (AID, 0, 1, 5)):
            self.assertEqual(self.holds(self.FIVE + [order, (STAY, 1, 0)] + looks((0, 1))), (2, 2))


class Wall(Bounds):
    THREE = FIELD + armies({0: 0, 1: 1, 2: 2, 3: 1})

    def test_no_unit_in_the_goal(self):
        self.assertEqual(self.wall(self.THREE + [move(0, 5)]), (0, 0))
        self.assertEqual(self.wall(self.THREE + [move(0, 5), (STAY, 2, 5)] + looks((0, 2))), (0, 0))

    def test_a_unit_that_stands(self):
        calls = self.THREE + [move(0, 1), (STAY, 2, 1)]
        self.assertEqual(self.wall(calls), (1, 2))
        self.assertEqual(self.wall(calls + looks((0, 2))), (2, 2))
        self.assertEqual(self.wall(self.THREE + [move(0, 1), (STAY, 2, 1), move(3, 2)] + looks((0, 2))), (1, 1))

    def test_a_unit_that_moves_on(self):
        calls = self.THREE + [move(0, 1), move(1, 5)]
        self.assertEqual(self.wall(calls), (0, 1))
        self.assertEqual(known_after(calls + looks((2, 1))), {"goes": [1]})
        self.assertEqual(self.wall(calls + looks((2, 1))), (0, 0))
        calls = self.THREE + [move(0, 1), move(1, 2)]
        self.assertEqual(self.wall(calls), (0, 1))
        self.assertEqual(known_after(calls + looks((2, 1))), {"fails": [1]})
        self.assertEqual(self.wall(calls + looks((2, 1))), (1, 1))

    def test_help_to_stay_is_none_for_a_unit_that_moves(self):
        calls = self.THREE + [move(0, 1), move(1, 2), (STAY, 3, 1)]
        self.assertEqual(self.wall(calls + looks((0, 3))), (0, 1))
        self.assertEqual(self.wall(calls + looks((0, 3), (2, 1))), (1, 1))

    def test_head_to_head(self):
        calls = self.THREE + [move(0, 1), move(1, 0)]
        self.assertEqual(self.wall(calls), (1, 1))
        calls += [(AID, 2, 1, 0), (AID, 3, 1, 0)]
        self.assertEqual(self.wall(calls), (1, 3))
        self.assertEqual(self.wall(calls + looks((0, 2))), (2, 3))
        self.assertEqual(self.wall(calls + [(UNIT, 5, ARMY, 6, 0), move(6, 2)] + looks((0, 2))), (1, 2))

    def test_head_to_head_it_stays_whatever_the_other_move_comes_to(self):
        calls = self.THREE + [move(0, 1), move(1, 0), (AID, 3, 1, 0)] + looks((0, 3), (2, 1))
        self.assertEqual(known_after(calls), {"uncut": [3], "goes": [1]})
        self.assertEqual(self.wall(calls), (2, 2))
        calls = self.THREE + [move(0, 1), move(1, 0)] + looks((2, 1))
        self.assertEqual(known_after(calls), {"fails": [1]})
        self.assertEqual(self.wall(calls), (1, 1))

    def test_head_to_head_of_one_power(self):
        calls = self.THREE + [move(1, 3), move(3, 1), (AID, 2, 3, 1)] + looks((0, 2))
        self.assertEqual(self.wall(calls, 1), (2, 2))
        self.assertEqual(self.wall(calls, 3), (1, 1))

    def test_moves_in_a_ring_of_three_are_not_head_to_head(self):
        calls = self.THREE + [move(0, 1), move(1, 2), move(2, 0), (AID, 3, 1, 2)]
        self.assertEqual(self.wall(calls), (0, 1))

    def test_by_water_is_never_head_to_head(self):
        calls = WATER + [(LAND, 0, 1), (UNIT, 1, ARMY, 1, 0), move(1, 0), (UNIT, 1, ARMY, 3, 0), (AID, 3, 1, 0)]
        self.assertEqual(self.wall(calls, 0), (0, 1))
        self.assertEqual(self.wall(calls, 1), (0, 1))
        both = calls + [by_water(1, 0)]
        self.assertEqual(self.wall(both, 0), (0, 1))
        neither = calls + [move(0, 1)]
        self.assertEqual(self.wall(neither, 0), (1, 2))


class Attack(Bounds):
    """The move is one of power 0 from 0 to 1; the units in 2 to 4 are those that may help."""

    FREE = FIELD + armies({0: 0, 2: 1, 3: 2, 4: 0}) + [move(0, 1)]
    HELPED = FREE + [(AID, 2, 0, 1), (AID, 3, 0, 1), (AID, 4, 0, 1)]
    ALL_UNCUT = looks((0, 2), (0, 3), (0, 4))

    def against(self, power, order=(HOLD, 1)):
        return self.HELPED + [(UNIT, power, ARMY, 1, 0), order]

    def test_into_an_empty_province(self):
        self.assertEqual(self.attack(self.FREE), (1, 1))
        self.assertEqual(self.attack(self.HELPED), (1, 4))
        self.assertEqual(self.attack(self.HELPED + looks((0, 2))), (2, 4))
        self.assertEqual(self.attack(self.HELPED + self.ALL_UNCUT), (4, 4))

    def test_a_cut_helper_does_not_count(self):
        calls = self.HELPED + [(UNIT, 6, ARMY, 5, 0), move(5, 2)]
        self.assertEqual(self.attack(calls), (1, 4))
        self.assertEqual(self.attack(calls + looks((0, 2))), (1, 3))
        self.assertEqual(self.attack(calls + self.ALL_UNCUT), (3, 3))

    def test_only_aid_for_this_very_move_helps(self):
        calls = self.FREE + [(AID, 2, 4, 1), (AID, 3, 0, 5), (STAY, 4, 0)]
        self.assertEqual(self.attack(calls), (1, 1))
        self.assertEqual(self.attack(calls + self.ALL_UNCUT), (1, 1))

    def test_against_a_unit_that_stands(self):
        self.assertEqual(self.attack(self.against(5)), (1, 4))
        self.assertEqual(self.attack(self.against(5) + self.ALL_UNCUT), (4, 4))

    def test_helpers_of_that_units_power_do_not_count(self):
        self.assertEqual(self.attack(self.against(1)), (1, 3))
        self.assertEqual(self.attack(self.against(1) + self.ALL_UNCUT), (3, 3))
        self.assertEqual(self.attack(self.against(1) + looks((0, 2))), (1, 3))
        self.assertEqual(self.attack(self.against(2) + looks((0, 2))), (2, 3))

    def test_against_a_unit_of_the_same_power(self):
        self.assertEqual(self.attack(self.against(0)), (0, 0))
        self.assertEqual(self.attack(self.against(0) + self.ALL_UNCUT), (0, 0))

    def test_a_unit_that_may_have_left(self):
        moving = move(1, 6)
        self.assertEqual(self.attack(self.against(1, moving)), (1, 4))
        self.assertEqual(self.attack(self.against(1, moving) + self.ALL_UNCUT), (3, 4))
        self.assertEqual(self.attack(self.against(0, moving)), (0, 4))
        self.assertEqual(self.attack(self.against(0, moving) + self.ALL_UNCUT), (0, 4))

    def test_a_unit_that_has_surely_left(self):
        for power in (0, 1, 5):
            calls = self.against(power, move(1, 6)) + looks((2, 1))
            self.assertEqual(known_after(calls), {"goes": [1]})
            self.assertEqual(self.attack(calls), (1, 4))
            self.assertEqual(self.attack(calls + self.ALL_UNCUT), (4, 4))

    def test_a_unit_that_is_known_not_to_go(self):
        told = {0: ((0, 0), (0, 0)), 1: ((1, 3), (3, 3)), 5: ((1, 4), (4, 4))}
        for power, bounds in told.items():
            calls = self.against(power, move(1, 6)) + [(UNIT, 6, ARMY, 6, 0)] + looks((2, 1))
            self.assertEqual(known_after(calls), {"fails": [1]})
            self.assertEqual(self.attack(calls), bounds[0])
            self.assertEqual(self.attack(calls + self.ALL_UNCUT), bounds[1])

    def test_head_to_head_it_cannot_have_left(self):
        told = {0: ((0, 0), (0, 0)), 1: ((1, 3), (3, 3)), 5: ((1, 4), (4, 4))}
        for power, bounds in told.items():
            calls = self.against(power, move(1, 0))
            self.assertEqual(self.attack(calls), bounds[0])
            self.assertEqual(self.attack(calls + self.ALL_UNCUT), bounds[1])

    def test_head_to_head_though_the_other_is_known_to_go(self):
        calls = FIELD + armies({0: 0, 1: 1, 2: 1, 3: 1, 4: 1}) + [move(0, 1), move(1, 0)]
        calls += [(AID, 2, 1, 0), (AID, 4, 1, 0), (AID, 3, 0, 1)] + looks((0, 2), (0, 3), (0, 4), (2, 1))
        self.assertEqual(known_after(calls), {"uncut": [2, 3, 4], "goes": [1]})
        self.assertEqual(self.attack(calls), (1, 1))

    def test_against_a_unit_that_leaves_by_water(self):
        calls = WATER + [(UNIT, 0, ARMY, 1, 0), by_water(1, 0)]
        self.assertEqual(self.attack(calls), (0, 1))
        self.assertEqual(self.attack(calls + looks((1, 0))), (0, 1))

    def test_by_water_with_nothing_known(self):
        self.assertEqual(self.attack(WATER), (0, 1))
        helped = WATER + [(UNIT, 1, ARMY, 3, 0), (AID, 3, 0, 1)]
        self.assertEqual(self.attack(helped), (0, 2))
        self.assertEqual(self.attack(helped + looks((0, 3))), (0, 2))

    def test_by_water_with_a_way(self):
        helped = WATER + [(UNIT, 1, ARMY, 3, 0), (AID, 3, 0, 1)] + looks((1, 0))
        self.assertEqual(known_after(helped), {"way": [0]})
        self.assertEqual(self.attack(helped), (1, 2))
        self.assertEqual(self.attack(helped + looks((0, 3))), (2, 2))

    def test_by_water_without_a_way(self):
        helped = DRY + [(UNIT, 1, ARMY, 3, 0), (AID, 3, 0, 1)]
        self.assertEqual(self.attack(helped), (0, 2))
        helped += looks((1, 0))
        self.assertEqual(known_after(helped), {"no way": [0]})
        self.assertEqual(self.attack(helped), (0, 0))


class KeepsOut(Bounds):
    TWO = FIELD + armies({0: 0, 1: 1, 2: 1, 3: 0}) + [move(0, 1)]

    def test_alone_and_helped(self):
        calls = FIELD + armies({0: 0, 2: 1, 3: 0}) + [move(0, 1)]
        self.assertEqual(self.keeps_out(calls), (1, 1))
        calls += [(AID, 2, 0, 1), (AID, 3, 0, 1)]
        self.assertEqual(self.keeps_out(calls), (1, 3))
        self.assertEqual(self.keeps_out(calls + looks((0, 2))), (2, 3))
        cut = calls + [(UNIT, 4, ARMY, 5, 0), move(5, 2)] + looks((0, 2))
        self.assertEqual(self.keeps_out(cut), (1, 2))

    def test_whoever_stands_in_the_goal(self):
        calls = self.TWO + [(AID, 2, 0, 1)]
        self.assertEqual(self.attack(calls), (1, 1))
        self.assertEqual(self.keeps_out(calls), (1, 2))
        self.assertEqual(self.keeps_out(calls + looks((0, 2))), (2, 2))
        same = FIELD + armies({0: 0, 1: 0}) + [move(0, 1)]
        self.assertEqual(self.attack(same), (0, 0))
        self.assertEqual(self.keeps_out(same), (1, 1))

    def test_head_to_head_with_nothing_known(self):
        calls = self.TWO + [move(1, 0), (AID, 3, 0, 1)]
        self.assertEqual(self.keeps_out(calls), (0, 2))
        self.assertEqual(self.keeps_out(calls + looks((0, 3))), (0, 2))

    def test_head_to_head_with_one_known_not_to_go(self):
        calls = self.TWO + [move(1, 0), (AID, 3, 0, 1)] + looks((2, 1))
        self.assertEqual(known_after(calls), {"fails": [1]})
        self.assertEqual(self.keeps_out(calls), (1, 2))
        self.assertEqual(self.keeps_out(calls + looks((0, 3))), (2, 2))

    def test_head_to_head_with_one_known_to_go(self):
        calls = self.TWO + [move(1, 0), (AID, 2, 1, 0), (AID, 3, 0, 1)]
        calls += [(UNIT, 6, ARMY, 4, 0), move(4, 3)] + looks((0, 2), (0, 3), (2, 1))
        self.assertEqual(known_after(calls), {"uncut": [2], "cut": [3], "goes": [1]})
        self.assertEqual(self.keeps_out(calls), (0, 0))

    def test_a_unit_known_to_go_or_not_that_is_not_head_to_head(self):
        calls = self.TWO + [move(1, 5)]
        self.assertEqual(self.keeps_out(calls), (1, 1))
        self.assertEqual(known_after(calls + looks((2, 1))), {"goes": [1]})
        self.assertEqual(self.keeps_out(calls + looks((2, 1))), (1, 1))

    def test_by_water(self):
        helped = [(UNIT, 1, ARMY, 3, 0), (AID, 3, 0, 1)]
        self.assertEqual(self.keeps_out(WATER + helped), (0, 2))
        self.assertEqual(self.keeps_out(WATER + helped + looks((0, 3))), (0, 2))
        self.assertEqual(self.keeps_out(WATER + helped + looks((1, 0))), (1, 2))
        self.assertEqual(self.keeps_out(WATER + helped + looks((1, 0), (0, 3))), (2, 2))
        self.assertEqual(self.keeps_out(DRY + helped), (0, 2))
        self.assertEqual(self.keeps_out(DRY + helped + looks((1, 0), (0, 3))), (0, 0))

    def test_by_water_against_one_another_is_not_head_to_head(self):
        calls = WATER + [(UNIT, 1, ARMY, 1, 0), by_water(1, 0)]
        self.assertEqual(self.keeps_out(calls + looks((1, 0))), (1, 1))
