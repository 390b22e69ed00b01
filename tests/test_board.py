"""Promises 0 to 3: clear, province, land, sea."""

import unittest
from itertools import combinations

from tests.helper import (
    ARMY, CLEAR, COAST, FLEET, GONE, HOLD, INLAND, LAND, OCEAN, PROVINCE, SEA, UNIT,
    ask, last, provinces, state, table_after)

# 25 provinces have just 300 pairs, so a 26th is there for the 301st link.
LAND_FULL = provinces(*[COAST] * 26) + [(LAND, p, q) for p, q in combinations(range(25), 2)]

# Seven provinces with four shores each have 336 pairs of places in different provinces.
PLACES = [(p, s) for p in range(7) for s in range(4)]
SEA_PAIRS = [(one, other) for one, other in combinations(PLACES, 2) if one[0] != other[0]]
SEA_FULL = provinces(*[COAST] * 8) + [(SEA, *one, *other) for one, other in SEA_PAIRS[:300]]


class Province(unittest.TestCase):
    def test_numbers_rise_from_0(self):
        self.assertEqual(ask(provinces(INLAND, OCEAN, COAST, INLAND)), [[0, 0], [0, 1], [0, 2], [0, 3]])

    def test_the_kind_is_kept(self):
        self.assertEqual(table_after(provinces(COAST, INLAND, OCEAN)).board.kinds, [2, 0, 1])

    def test_the_40th_and_the_41st(self):
        rows = ask(provinces(*[n % 3 for n in range(42)]))
        self.assertEqual(rows[:40], [[0, n] for n in range(40)])
        self.assertEqual(rows[40:], [[-2], [-2]])

    def test_a_refused_province_is_not_there(self):
        full = provinces(*[COAST] * 41)
        self.assertEqual(last(full + [(UNIT, 0, ARMY, 39, 0)]), [0])
        self.assertEqual(last(full + [(UNIT, 0, ARMY, 40, 0)]), [-1])


class Land(unittest.TestCase):
    def test_land_and_coast_are_joined(self):
        board = provinces(INLAND, INLAND, COAST, COAST)
        rows = ask(board + [(LAND, p, q) for p, q in combinations(range(4), 2)])
        self.assertEqual(rows[4:], [[0]] * 6)

    def test_a_province_with_itself(self):
        for kind in (INLAND, OCEAN, COAST):
            self.assertEqual(last(provinces(kind) + [(LAND, 0, 0)]), [-3])

    def test_a_sea_at_either_end(self):
        board = provinces(INLAND, OCEAN, COAST, OCEAN)
        for p, q in ((0, 1), (1, 0), (2, 1), (1, 2), (1, 3)):
            self.assertEqual(last(board + [(LAND, p, q)]), [-3])

    def test_joined_already_either_way_round(self):
        board = provinces(INLAND, COAST, INLAND)
        self.assertEqual(ask(board + [(LAND, 1, 0), (LAND, 1, 0), (LAND, 0, 1), (LAND, 1, 2), (LAND, 2, 1)])[3:],
                         [[0], [-4], [-4], [0], [-4]])

    def test_a_link_of_sea_is_none_of_land(self):
        board = provinces(COAST, COAST) + [(SEA, 0, 0, 1, 0)]
        self.assertEqual(last(board + [(LAND, 0, 1)]), [0])

    def test_the_300th_and_the_301st(self):
        self.assertEqual(ask(LAND_FULL)[26:], [[0]] * 300)
        self.assertEqual(ask(LAND_FULL + [(LAND, 0, 25), (LAND, 25, 24)])[326:], [[-2], [-2]])
        self.assertEqual(len(table_after(LAND_FULL + [(LAND, 0, 25)]).board.land_links), 300)

    def test_refusals_ahead_of_the_full_board(self):
        self.assertEqual(last(LAND_FULL + [(LAND, 25, 25)]), [-3])
        self.assertEqual(last(LAND_FULL + [(PROVINCE, OCEAN), (LAND, 0, 26)]), [-3])
        self.assertEqual(last(LAND_FULL + [(LAND, 0, 24)]), [-4])
        self.assertEqual(last(LAND_FULL + [(LAND, 24, 0)]), [-4])

    def test_links_of_land_take_no_room_from_those_of_sea(self):
        self.assertEqual(last(LAND_FULL + [(SEA, 0, 0, 25, 0)]), [0])


class Sea(unittest.TestCase):
    def test_sea_and_coast_are_joined(self):
        board = provinces(OCEAN, OCEAN, COAST, COAST)
        rows = ask(board + [(SEA, p, 0, q, 0) for p, q in combinations(range(4), 2)])
        self.assertEqual(rows[4:], [[0]] * 6)

    def test_every_shore_of_every_kind_but_land(self):
        board = provinces(OCEAN, COAST)
        rows = ask(board + [(SEA, 0, s, 1, t) for s in range(4) for t in range(4)])
        self.assertEqual(rows[2:], [[0]] * 16)

    def test_a_province_with_itself_at_whatever_shore(self):
        for kind in (INLAND, OCEAN, COAST):
            for s, t in ((0, 0), (0, 1), (3, 2)):
                self.assertEqual(last(provinces(kind) + [(SEA, 0, s, 0, t)]), [-3])

    def test_land_at_either_end(self):
        board = provinces(INLAND, OCEAN, COAST, INLAND)
        for p, q in ((0, 1), (1, 0), (0, 2), (2, 0), (0, 3)):
            self.assertEqual(last(board + [(SEA, p, 0, q, 0)]), [-3])

    def test_joined_already_either_way_round(self):
        board = provinces(OCEAN, COAST) + [(SEA, 1, 3, 0, 1)]
        self.assertEqual(last(board + [(SEA, 1, 3, 0, 1)]), [-4])
        self.assertEqual(last(board + [(SEA, 0, 1, 1, 3)]), [-4])

    def test_the_same_provinces_at_other_shores_are_other_places(self):
        board = provinces(OCEAN, COAST) + [(SEA, 1, 3, 0, 1)]
        for call in ((SEA, 1, 1, 0, 3), (SEA, 0, 3, 1, 1), (SEA, 0, 1, 1, 2), (SEA, 0, 0, 1, 3)):
            self.assertEqual(last(board + [call]), [0])

    def test_a_link_of_land_is_none_of_sea(self):
        board = provinces(COAST, COAST) + [(LAND, 0, 1)]
        self.assertEqual(last(board + [(SEA, 0, 0, 1, 0)]), [0])

    def test_the_300th_and_the_301st(self):
        self.assertEqual(ask(SEA_FULL)[8:], [[0]] * 300)
        one, other = SEA_PAIRS[300]
        more = [(SEA, *one, *other), (SEA, *other, *one), (SEA, 7, 0, 0, 0)]
        self.assertEqual(ask(SEA_FULL + more)[308:], [[-2]] * 3)
        self.assertEqual(state(table_after(SEA_FULL + more)), state(table_after(SEA_FULL)))

    def test_refusals_ahead_of_the_full_board(self):
        one, other = SEA_PAIRS[299]
        self.assertEqual(last(SEA_FULL + [(SEA, 7, 0, 7, 1)]), [-3])
        self.assertEqual(last(SEA_FULL + [(PROVINCE, INLAND), (SEA, 0, 0, 8, 0)]), [-3])
        self.assertEqual(last(SEA_FULL + [(SEA, *one, *other)]), [-4])
        self.assertEqual(last(SEA_FULL + [(SEA, *other, *one)]), [-4])

    def test_links_of_sea_take_no_room_from_those_of_land(self):
        self.assertEqual(last(SEA_FULL + [(LAND, 0, 1)]), [0])


class Clear(unittest.TestCase):
    def test_the_table_is_empty(self):
        used = provinces(COAST, COAST) + [(LAND, 0, 1), (SEA, 0, 0, 1, 0), (UNIT, 0, FLEET, 0, 0), (CLEAR,)]
        self.assertEqual(last(used), [0])
        self.assertEqual(state(table_after(used)), state(table_after([])))
        self.assertEqual(last(used + [(HOLD, 0)]), [-1])

    def test_provinces_links_and_units_are_laid_anew(self):
        laid = provinces(COAST, COAST) + [(LAND, 0, 1), (SEA, 0, 0, 1, 0), (UNIT, 0, FLEET, 0, 0), (HOLD, 0)]
        self.assertEqual(ask(laid + [(CLEAR,)] + laid), ask(laid) + [[0]] + ask(laid))

    def test_the_old_units_and_links_are_gone(self):
        used = provinces(COAST, COAST) + [(UNIT, 0, ARMY, 0, 0), (CLEAR,)] + provinces(OCEAN, COAST)
        self.assertEqual(last(used + [(GONE, 0)]), [-5])
        self.assertEqual(last(used + [(LAND, 0, 1)]), [-3])

    def test_a_full_table_has_room_again(self):
        full = provinces(*[COAST] * 40) + [(UNIT, 0, ARMY, p, 0) for p in range(24)]
        rows = ask(full + [(CLEAR,)] + full)
        self.assertEqual(rows[65:], rows[:64])
        behind = provinces(COAST, COAST) + [(LAND, 0, 1), (SEA, 0, 0, 1, 0)]
        for links in (LAND_FULL, SEA_FULL):
            self.assertEqual(ask(links + [(CLEAR,)] + behind)[len(links):], [[0], [0, 0], [0, 1], [0], [0]])

    def test_clear_of_an_empty_table(self):
        self.assertEqual(ask([(CLEAR,), (CLEAR,), (PROVINCE, COAST)]), [[0], [0], [0, 0]])
