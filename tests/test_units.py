"""Promises 4 to 10: unit, gone, the orders hold, move, stay, aid, carry; and what these orders count as."""

import unittest

from ordersknown.orders import order_as_it_counts, reaches
from tests.helper import (
    AID, ARMY, CARRY, COAST, FLEET, GONE, HOLD, INLAND, LAND, MOVE, OCEAN, SEA, STAY, UNIT,
    ask, last, provinces, state, table_after)

KINDS = provinces(INLAND, OCEAN, COAST)
FULL = provinces(*[COAST] * 26 + [OCEAN, INLAND]) + [(UNIT, p % 7, p % 2, p, 0) for p in range(24)]


class Units(unittest.TestCase):
    def test_where_an_army_may_stand(self):
        answered = [last(KINDS + [(UNIT, 0, ARMY, p, 0)]) for p in range(3)]
        self.assertEqual(answered, [[0], [-3], [0]])

    def test_where_a_fleet_may_stand(self):
        for s in range(4):
            answered = [last(KINDS + [(UNIT, 0, FLEET, p, s)]) for p in range(3)]
            self.assertEqual(answered, [[-3], [0], [0]])

    def test_an_army_at_another_shore(self):
        for s in (1, 2, 3):
            for p in range(3):
                self.assertEqual(last(KINDS + [(UNIT, 0, ARMY, p, s)]), [-3])

    def test_a_province_has_at_most_one(self):
        one = KINDS + [(UNIT, 3, FLEET, 2, 1)]
        for call in ((UNIT, 3, FLEET, 2, 1), (UNIT, 4, FLEET, 2, 0), (UNIT, 5, ARMY, 2, 0)):
            self.assertEqual(last(one + [call]), [-4])
            self.assertEqual(state(table_after(one + [call])), state(table_after(one)))

    def test_a_unit_is_kept_as_it_was_set_and_holds(self):
        table = table_after(KINDS + [(UNIT, 6, FLEET, 2, 3), (UNIT, 1, ARMY, 0, 0)])
        self.assertEqual(state(table)[3], [(6, 1, 2, 3, ("hold",)), (1, 0, 0, 0, ("hold",))])

    def test_the_24th_and_the_25th(self):
        self.assertEqual(ask(FULL)[28:], [[0]] * 24)
        more = [(UNIT, 0, ARMY, 24, 0), (UNIT, 0, FLEET, 25, 3), (UNIT, 0, FLEET, 26, 0), (UNIT, 0, ARMY, 27, 0)]
        self.assertEqual(ask(FULL + more)[52:], [[-2]] * 4)
        self.assertEqual(state(table_after(FULL + more)), state(table_after(FULL)))

    def test_refusals_in_their_order(self):
        self.assertEqual(last(KINDS + [(UNIT, 0, FLEET, 1, 0), (UNIT, 0, ARMY, 1, 0)]), [-3])
        self.assertEqual(last(KINDS + [(UNIT, 0, ARMY, 0, 0), (UNIT, 0, FLEET, 0, 0)]), [-3])
        self.assertEqual(last(KINDS + [(UNIT, 0, ARMY, 2, 0), (UNIT, 0, ARMY, 2, 1)]), [-3])
        self.assertEqual(last(FULL + [(UNIT, 0, ARMY, 26, 0)]), [-3])
        self.assertEqual(last(FULL + [(UNIT, 0, FLEET, 27, 0)]), [-3])
        self.assertEqual(last(FULL + [(UNIT, 0, ARMY, 24, 1)]), [-3])
        self.assertEqual(last(FULL + [(UNIT, 0, ARMY, 0, 1)]), [-3])
        self.assertEqual(last(FULL + [(UNIT, 0, ARMY, 23, 0)]), [-4])


class Gone(unittest.TestCase):
    def test_no_unit(self):
        self.assertEqual(ask(KINDS + [(GONE, 0), (GONE, 1), (GONE, 2)])[3:], [[-5]] * 3)

    def test_it_is_not_there_any_more(self):
        calls = [(UNIT, 0, ARMY, 0, 0), (GONE, 0), (GONE, 0), (HOLD, 0)]
        self.assertEqual(ask(KINDS + calls)[3:], [[0], [0], [-5], [-5]])
        self.assertEqual(table_after(KINDS + calls).units, {})

    def test_only_that_one_goes(self):
        calls = KINDS + [(UNIT, 0, ARMY, 0, 0), (UNIT, 0, ARMY, 2, 0), (GONE, 0), (HOLD, 2)]
        self.assertEqual(last(calls), [0])
        self.assertEqual(list(table_after(calls).units), [2])

    def test_set_again_it_is_another_unit_behind_the_others(self):
        calls = KINDS + [
            (UNIT, 0, ARMY, 2, 0), (UNIT, 0, ARMY, 0, 0), (MOVE, 2, 0, 0, 0), (GONE, 2), (UNIT, 5, FLEET, 2, 1)]
        self.assertEqual(last(calls), [0])
        self.assertEqual(state(table_after(calls))[3], [(0, 0, 0, 0, ("hold",)), (5, 1, 2, 1, ("hold",))])

    def test_a_full_table_has_room_for_one(self):
        more = [(GONE, 3), (UNIT, 0, ARMY, 24, 0), (UNIT, 0, ARMY, 3, 0)]
        self.assertEqual(ask(FULL + more)[52:], [[0], [0], [-2]])


class Orders(unittest.TestCase):
    def test_no_unit(self):
        board = KINDS + [(UNIT, 0, ARMY, 0, 0)]
        for call in ((HOLD, 2), (MOVE, 2, 0, 0, 0), (STAY, 2, 0), (AID, 2, 0, 1), (CARRY, 2, 0, 1)):
            self.assertEqual(last(board + [call]), [-5], call)
            self.assertEqual(state(table_after(board + [call])), state(table_after(board)))

    def test_the_order_that_was_given_last_is_kept(self):
        board = KINDS + [(UNIT, 0, ARMY, 0, 0), (UNIT, 1, FLEET, 2, 0)]
        given = (
            ((MOVE, 0, 2, 3, 1), ("move", 2, 3, 1)), ((STAY, 0, 2), ("stay", 2)),
            ((AID, 0, 2, 1), ("aid", 2, 1)), ((CARRY, 0, 1, 2), ("carry", 1, 2)), ((HOLD, 0), ("hold",)))
        for first, unused in given:
            for call, order in given:
                self.assertEqual(ask(board + [first, call])[5:], [[0], [0]])
                table = table_after(board + [first, call])
                self.assertEqual(table.units[0].order, order)
                self.assertEqual(table.units[2].order, ("hold",))

    def test_an_order_that_counts_as_hold_is_done_too(self):
        board = KINDS + [(UNIT, 0, ARMY, 0, 0), (UNIT, 1, FLEET, 2, 3)]
        calls = [(MOVE, 0, 0, 0, 0), (MOVE, 0, 1, 3, 1), (MOVE, 2, 0, 0, 0), (MOVE, 2, 2, 1, 1), (STAY, 0, 0),
                 (STAY, 2, 0), (AID, 0, 0, 0), (AID, 0, 1, 1), (AID, 2, 2, 1), (AID, 2, 1, 2),
                 (CARRY, 0, 1, 2), (CARRY, 2, 0, 1), (CARRY, 2, 1, 1)]
        self.assertEqual(ask(board + calls)[5:], [[0]] * len(calls))

    def test_a_unit_may_be_ordered_at_both_ends_of_the_provinces(self):
        board = provinces(*[COAST] * 40) + [(UNIT, 0, ARMY, 0, 0), (UNIT, 0, ARMY, 39, 0)]
        calls = [(HOLD, 39), (MOVE, 39, 0, 0, 0), (MOVE, 0, 39, 3, 1), (STAY, 39, 0), (STAY, 0, 39),
                 (AID, 39, 0, 1), (AID, 0, 39, 1), (AID, 0, 1, 39),
                 (CARRY, 39, 0, 1), (CARRY, 0, 39, 1), (CARRY, 0, 1, 39), (GONE, 39), (GONE, 0)]
        self.assertEqual(ask(board + calls)[42:], [[0]] * len(calls))


class Counts(unittest.TestCase):
    """Inland 0, sea 1, coasts 2, 3, 4, 5. By land 0-2-3. By sea 1:0 with 2:0, 3:1 and 4:0; 2:0 with 4:2."""

    BOARD = provinces(INLAND, OCEAN, COAST, COAST, COAST, COAST) + [
        (LAND, 0, 2), (LAND, 3, 2),
        (SEA, 1, 0, 2, 0), (SEA, 3, 1, 1, 0), (SEA, 1, 0, 4, 0), (SEA, 4, 2, 2, 0)]

    def counted(self, unit, order, more=()):
        table = table_after(self.BOARD + [unit, order] + list(more))
        return order_as_it_counts(table.board, table.units[unit[3]])

    def reached(self, unit):
        table = table_after(self.BOARD + [unit])
        return [q for q in range(6) if reaches(table.board, table.units[unit[3]], q)]

    def test_what_a_unit_reaches(self):
        self.assertEqual(self.reached((UNIT, 0, ARMY, 0, 0)), [2])
        self.assertEqual(self.reached((UNIT, 0, ARMY, 2, 0)), [0, 3])
        self.assertEqual(self.reached((UNIT, 0, ARMY, 4, 0)), [])
        self.assertEqual(self.reached((UNIT, 0, FLEET, 1, 0)), [2, 3, 4])
        self.assertEqual(self.reached((UNIT, 0, FLEET, 1, 1)), [])
        self.assertEqual(self.reached((UNIT, 0, FLEET, 2, 0)), [1, 4])
        self.assertEqual(self.reached((UNIT, 0, FLEET, 4, 2)), [2])

    def test_a_fleet_reaches_a_province_at_whatever_shore(self):
        for t in range(4):
            table = table_after(provinces(OCEAN, COAST) + [(SEA, 1, t, 0, 2), (UNIT, 0, FLEET, 0, 2)])
            self.assertTrue(reaches(table.board, table.units[0], 1))

    def test_hold(self):
        self.assertEqual(self.counted((UNIT, 0, ARMY, 2, 0), (HOLD, 2)), ("hold",))

    def test_a_move_of_a_fleet(self):
        fleet = (UNIT, 0, FLEET, 1, 0)
        self.assertEqual(self.counted(fleet, (MOVE, 1, 3, 1, 0)), ("move", 3))
        self.assertEqual(self.counted(fleet, (MOVE, 1, 3, 0, 0)), ("hold",))
        self.assertEqual(self.counted(fleet, (MOVE, 1, 3, 1, 1)), ("hold",))
        self.assertEqual(self.counted(fleet, (MOVE, 1, 5, 0, 0)), ("hold",))
        self.assertEqual(self.counted(fleet, (MOVE, 1, 1, 0, 0)), ("hold",))
        self.assertEqual(self.counted((UNIT, 0, FLEET, 1, 2), (MOVE, 1, 3, 1, 0)), ("hold",))
        self.assertEqual(self.counted((UNIT, 0, FLEET, 3, 1), (MOVE, 3, 1, 0, 0)), ("move", 1))
        self.assertEqual(self.counted((UNIT, 0, FLEET, 2, 0), (MOVE, 2, 3, 0, 0)), ("hold",))
        self.assertEqual(self.counted((UNIT, 0, FLEET, 2, 0), (MOVE, 2, 3, 0, 1)), ("hold",))

    def test_a_move_of_an_army(self):
        army = (UNIT, 0, ARMY, 2, 0)
        self.assertEqual(self.counted(army, (MOVE, 2, 0, 0, 0)), ("move", 0))
        self.assertEqual(self.counted(army, (MOVE, 2, 0, 3, 0)), ("move", 0))
        self.assertEqual(self.counted(army, (MOVE, 2, 3, 0, 0)), ("move", 3))
        self.assertEqual(self.counted(army, (MOVE, 2, 3, 0, 1)), ("by water", 3))
        self.assertEqual(self.counted(army, (MOVE, 2, 4, 0, 0)), ("by water", 4))
        self.assertEqual(self.counted(army, (MOVE, 2, 5, 1, 1)), ("by water", 5))
        self.assertEqual(self.counted(army, (MOVE, 2, 0, 0, 1)), ("hold",))
        self.assertEqual(self.counted(army, (MOVE, 2, 1, 0, 0)), ("hold",))
        self.assertEqual(self.counted(army, (MOVE, 2, 1, 0, 1)), ("hold",))
        self.assertEqual(self.counted(army, (MOVE, 2, 2, 0, 0)), ("hold",))
        self.assertEqual(self.counted(army, (MOVE, 2, 2, 0, 1)), ("hold",))
        self.assertEqual(self.counted((UNIT, 0, ARMY, 0, 0), (MOVE, 0, 3, 0, 1)), ("hold",))
        self.assertEqual(self.counted((UNIT, 0, ARMY, 0, 0), (MOVE, 0, 3, 0, 0)), ("hold",))

    def test_a_stay(self):
        self.assertEqual(self.counted((UNIT, 0, ARMY, 2, 0), (STAY, 2, 3)), ("stay", 3))
        self.assertEqual(self.counted((UNIT, 0, ARMY, 2, 0), (STAY, 2, 4)), ("hold",))
        self.assertEqual(self.counted((UNIT, 0, ARMY, 2, 0), (STAY, 2, 2)), ("hold",))
        self.assertEqual(self.counted((UNIT, 0, FLEET, 1, 0), (STAY, 1, 3)), ("stay", 3))
        self.assertEqual(self.counted((UNIT, 0, FLEET, 1, 3), (STAY, 1, 3)), ("hold",))

    def test_an_aid(self):
        army = (UNIT, 0, ARMY, 2, 0)
        self.assertEqual(self.counted(army, (AID, 2, 5, 3)), ("aid", 5, 3))
        self.assertEqual(self.counted(army, (AID, 2, 3, 0)), ("aid", 3, 0))
        self.assertEqual(self.counted(army, (AID, 2, 3, 3)), ("hold",))
        self.assertEqual(self.counted(army, (AID, 2, 2, 3)), ("hold",))
        self.assertEqual(self.counted(army, (AID, 2, 3, 2)), ("hold",))
        self.assertEqual(self.counted(army, (AID, 2, 3, 4)), ("hold",))
        self.assertEqual(self.counted((UNIT, 0, FLEET, 1, 0), (AID, 1, 5, 4)), ("aid", 5, 4))

    def test_a_carry(self):
        fleet = (UNIT, 0, FLEET, 1, 0)
        for a, q in ((2, 3), (3, 2), (5, 4), (0, 2), (1, 2), (2, 1)):
            self.assertEqual(self.counted(fleet, (CARRY, 1, a, q)), ("carry", a, q))
            self.assertEqual(self.counted((UNIT, 0, FLEET, 1, 3), (CARRY, 1, a, q)), ("carry", a, q))
            self.assertEqual(self.counted((UNIT, 0, FLEET, 2, 0), (CARRY, 2, a, q)), ("hold",))
            self.assertEqual(self.counted((UNIT, 0, ARMY, 2, 0), (CARRY, 2, a, q)), ("hold",))
            self.assertEqual(self.counted((UNIT, 0, ARMY, 0, 0), (CARRY, 0, a, q)), ("hold",))
        for a in range(6):
            self.assertEqual(self.counted(fleet, (CARRY, 1, a, a)), ("hold",))

    def test_a_link_laid_behind_the_order_counts(self):
        army = (UNIT, 0, ARMY, 5, 0)
        self.assertEqual(self.counted(army, (MOVE, 5, 0, 0, 0)), ("hold",))
        self.assertEqual(self.counted(army, (MOVE, 5, 0, 0, 0), [(LAND, 0, 5)]), ("move", 0))
        self.assertEqual(self.counted(army, (MOVE, 5, 4, 0, 0), [(LAND, 4, 5)]), ("move", 4))
        self.assertEqual(self.counted(army, (STAY, 5, 0), [(LAND, 0, 5)]), ("stay", 0))
