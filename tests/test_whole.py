"""Whole lists with all twenty calls mixed, held against a second, slower reading of the document."""

import random
import unittest

from ordersknown.calls import Table
from ordersknown.table import answer_call, answers
from tests.helper import (
    AID, ALL, ARMY, BOUNDS, CARRY, CLEAR, COAST, COUNT, FLEET, FORGET, GONE, HOLD, INLAND, KNOWN, LAND, LOOK, MOVE,
    OCEAN, PASS, PROVINCE, SEA, STAY, SUPPORT, UNIT, UNKNOWN,
    ask, flat)

WATER = "water"
KINDS = ("goes", "doesn't", "has a way", "has none", "is cut", "isn't")


class Reader:
    """Nothing is worked out ahead here: each question goes over all the units again."""

    def __init__(self):
        self.clear()

    def clear(self):
        self.kinds, self.land, self.sea, self.units, self.known = [], set(), set(), [], set()

    # The board, units, orders

    def at(self, p):
        return next((unit for unit in self.units if unit["p"] == p), None)

    def reaches(self, unit, q):
        if unit["fleet"]:
            return any(frozenset([(unit["p"], unit["s"]), (q, t)]) in self.sea for t in range(4))
        return self.kinds[q] != OCEAN and frozenset([unit["p"], q]) in self.land

    def order(self, unit):
        name, *rest = unit["order"]
        p, other = unit["p"], rest[0] if rest else None
        if name == MOVE and other != p:
            q, t, water = rest
            if unit["fleet"]:
                if not water and frozenset([(p, unit["s"]), (q, t)]) in self.sea:
                    return (MOVE, q)
            elif not water and self.reaches(unit, q):
                return (MOVE, q)
            elif self.kinds[p] == self.kinds[q] == COAST:
                return (WATER, q)
        if name == STAY and other != p and self.reaches(unit, other):
            return (STAY, other)
        if name == AID and len({p, *rest}) == 3 and self.reaches(unit, rest[1]):
            return (AID, *rest)
        if name == CARRY and unit["fleet"] and self.kinds[p] == OCEAN and rest[0] != rest[1]:
            return (CARRY, *rest)
        return (HOLD,)

    def moves(self, unit):
        return self.order(unit)[0] in (MOVE, WATER)

    def into(self, q):
        return [unit for unit in self.units if self.moves(unit) and self.order(unit)[1] == q]

    # What's known

    def is_known(self, kind, unit):
        return (kind, unit["p"]) in self.known

    def way(self, unit, sure):
        if self.order(unit)[0] != WATER:
            return True
        return self.is_known("has a way", unit) if sure else not self.is_known("has none", unit)

    def left(self, unit, sure):
        if not self.moves(unit):
            return False
        return self.is_known("goes", unit) if sure else not self.is_known("doesn't", unit)

    def facing(self, unit):
        """The unit that this one's move is head to head with."""
        other = self.at(self.order(unit)[1])
        if other and self.order(unit) == (MOVE, other["p"]) and self.order(other) == (MOVE, unit["p"]):
            return other
        return None

    def cut(self, unit, sure):
        for mover in self.units:
            if mover["power"] == unit["power"] or not self.moves(mover) or self.order(mover)[1] != unit["p"]:
                continue
            if not self.way(mover, sure):
                continue
            order = self.order(unit)
            if order[0] != AID or mover["p"] != order[2] or self.left(mover, sure):
                return True
        return False

    def helpers(self, order, lower):
        return [unit for unit in self.units if self.order(unit) == order
                and (self.is_known("isn't", unit) if lower else not self.is_known("is cut", unit))]

    def helpers_of_move(self, unit, lower):
        return self.helpers((AID, unit["p"], self.order(unit)[1]), lower)

    def attack(self, unit, lower):
        if not self.way(unit, lower):
            return 0
        helpers = self.helpers_of_move(unit, lower)
        other = self.at(self.order(unit)[1])
        if other is None or (self.left(other, lower) and self.facing(unit) is None):
            return 1 + len(helpers)
        if other["power"] == unit["power"]:
            return 0
        return 1 + sum(helper["power"] != other["power"] for helper in helpers)

    def keeps_out(self, unit, lower):
        other = self.facing(unit)
        if not self.way(unit, lower):
            return 0
        if other and (not self.is_known("doesn't", other) if lower else self.is_known("goes", other)):
            return 0
        return 1 + len(self.helpers_of_move(unit, lower))

    def holds(self, p, lower):
        unit = self.at(p)
        if unit is None:
            return 0
        if self.moves(unit):
            return int(self.is_known("doesn't", unit)) if lower else int(not self.is_known("goes", unit))
        return 1 + len(self.helpers((STAY, p), lower))

    def wall(self, unit, lower):
        other = self.facing(unit)
        return 1 + len(self.helpers_of_move(other, lower)) if other else self.holds(self.order(unit)[1], lower)

    def goes(self, unit, sure):
        attack = self.attack(unit, sure)
        others = [mover for mover in self.into(self.order(unit)[1]) if mover is not unit]
        return (self.way(unit, sure) and attack > self.wall(unit, not sure)
                and all(attack > self.keeps_out(mover, not sure) for mover in others))

    def driven_out(self, unit, sure):
        movers = self.into(unit["p"])
        if sure:
            return not self.left(unit, False) and any(self.is_known("goes", mover) for mover in movers)
        return not self.left(unit, True) and any(not self.is_known("doesn't", mover) for mover in movers)

    def chain(self, army, sure):
        a, q = army["p"], self.order(army)[1]
        fleets = [unit for unit in self.units if self.order(unit) == (CARRY, a, q)
                  and not self.driven_out(unit, not sure)]
        ends = [fleet["p"] for fleet in fleets if self.reaches(fleet, q)]
        # Which fleets lead to q, found from the far end, step by step until no more are.
        for step in fleets:
            ends = [one["p"] for one in fleets if one["p"] in ends or any(
                frozenset([(one["p"], one["s"]), (two["p"], two["s"])]) in self.sea
                for two in fleets if two["p"] in ends)]
        return any(self.reaches(fleet, a) for fleet in fleets if fleet["p"] in ends)

    def look(self, what, unit):
        before = len(self.known)
        order = self.order(unit)[0]
        asked = (self.cut, self.chain, self.goes)[what]
        kinds = (("is cut", "isn't"), ("has a way", "has none"), ("goes", "doesn't"))[what]
        if order in ((STAY, AID), (WATER,), (MOVE, WATER))[what]:
            if asked(unit, True):
                self.known.add((kinds[0], unit["p"]))
            elif not asked(unit, False):
                self.known.add((kinds[1], unit["p"]))
        return len(self.known) - before

    def one_pass(self):
        return sum(self.look(what, unit) for unit in self.units for what in range(3))

    # The calls

    def answer(self, call):
        place, *numbers = call
        count = len(self.kinds)
        sizes = {PROVINCE: (3,), SEA: (count, 4, count, 4), UNIT: (7, 2, count, 4), MOVE: (count, count, 4, 2),
                 LOOK: (3, count)}.get(place, (count,) * len(numbers))
        if not all(0 <= number < size for number, size in zip(numbers, sizes, strict=True)):
            return [-1]
        row = self.lay(place, *numbers) if place <= UNIT else self.ask_or_order(place, numbers)
        if place <= FORGET and row[0] == 0:
            self.known = set()
        return row

    def lay(self, place, *numbers):
        if place == CLEAR:
            self.clear()
        elif place == PROVINCE:
            if len(self.kinds) == 40:
                return [-2]
            self.kinds.append(numbers[0])
            return [0, len(self.kinds) - 1]
        elif place == UNIT:
            power, fleet, p, s = numbers
            if self.kinds[p] == (INLAND if fleet else OCEAN) or (s and not fleet):
                return [-3]
            if self.at(p):
                return [-4]
            if len(self.units) == 24:
                return [-2]
            self.units.append({"power": power, "fleet": fleet, "p": p, "s": s, "order": (HOLD,)})
        else:
            p, q = (numbers[0], numbers[-1]) if place == LAND else (numbers[0], numbers[2])
            links, wrong, link = (self.land, OCEAN, frozenset(numbers)) if place == LAND else (
                self.sea, INLAND, frozenset([tuple(numbers[:2]), tuple(numbers[2:])]))
            if p == q or wrong in (self.kinds[p], self.kinds[q]):
                return [-3]
            if link in links or len(links) == 300:
                return [-4] if link in links else [-2]
            links.add(link)
        return [0]

    def ask_or_order(self, place, numbers):
        if place in (PASS, ALL):
            found = [self.one_pass()]
            while place == ALL and found[-1]:
                found.append(self.one_pass())
            return [0, sum(found)]
        if place == KNOWN:
            rows = [sorted(p for kind, p in self.known if kind == name) for name in KINDS]
            return [0] + [number for row in rows for number in (len(row), *row)]
        if place == UNKNOWN:
            undecided = {unit["p"] for unit in self.units if self.moves(unit)}
            undecided -= {p for kind, p in self.known if kind in KINDS[:2]}
            return [0, len(undecided), *sorted(undecided)]
        if place in (FORGET, COUNT):
            return [0] if place == FORGET else [0, len(self.known)]
        unit = self.at(numbers[-1] if place == LOOK else numbers[0])
        if unit is None:
            return [-5]
        if place == LOOK:
            return [0, self.look(numbers[0], unit)]
        if place == SUPPORT:
            return [0, int(self.cut(unit, True)), int(self.cut(unit, False))]
        if place == BOUNDS and self.moves(unit):
            return [0] + [bound(unit, lower) for bound in (self.attack, self.wall, self.keeps_out)
                          for lower in (True, False)]
        if place == BOUNDS:
            return [0, self.holds(unit["p"], True), self.holds(unit["p"], False)]
        if place == GONE:
            self.units.remove(unit)
        else:
            unit["order"] = (place, *numbers[1:])
        return [0]


def read(calls):
    reader = Reader()
    return [reader.answer(call) for call in calls]


class Maker:
    """Lists of calls on boards so close that the orders bear on one another."""

    def __init__(self, seed):
        self.source = random.Random(seed)
        self.calls = []

    def pick(self, choices):
        return self.source.choice(choices)

    def chance(self, percent):
        return self.source.randrange(100) < percent

    def province(self):
        return self.source.randrange(self.size)

    def occupied(self):
        return self.pick(self.held) if self.chance(90) else self.province()

    def lay_board(self):
        self.size = self.source.randrange(4, 15)
        inner = self.pick([[INLAND], [INLAND, COAST], [COAST, COAST, OCEAN], [COAST, OCEAN], [INLAND, COAST, OCEAN]])
        self.kinds = [self.pick(inner) for p in range(self.size)]
        self.near = {p: [] for p in range(self.size)}
        self.calls += [(PROVINCE, kind) for kind in self.kinds]
        for p in range(self.size):
            for q in range(p):
                self.join(p, q)
        self.set_units()

    def join(self, p, q):
        kinds = (self.kinds[p], self.kinds[q])
        if OCEAN not in kinds and self.chance(45):
            self.calls.append((LAND, p, q))
        elif INLAND not in kinds and self.chance(60):
            shores = [1 if self.chance(8) else 0 for n in range(2)]
            self.calls.append((SEA, p, shores[0], q, shores[1]))
        else:
            return
        self.near[p].append(q)
        self.near[q].append(p)

    def set_units(self):
        powers = self.pick([2, 2, 3, 7])
        self.held = self.source.sample(range(self.size), self.source.randrange(self.size * 3 // 4, self.size + 1))
        for p in self.held:
            fleet = {INLAND: 0, OCEAN: 1, COAST: int(self.chance(15))}[self.kinds[p]]
            self.calls.append((UNIT, self.source.randrange(powers), fleet, p, 0))

    def plan_moves(self):
        """From where to where, and whether by water."""
        hot = [self.province() for n in range(3)]
        moves = {}
        for p in self.held:
            coasts = [q for q in range(self.size) if self.kinds[q] == self.kinds[p] == COAST and q != p]
            if coasts and self.chance(25):
                moves[p] = (self.pick(coasts), 1)
            elif self.near[p] and self.kinds[p] != OCEAN and self.chance(50) or self.chance(20):
                wanted = [q for q in self.near[p] if q in hot or q in moves] or self.near[p] or [p]
                moves[p] = (self.pick(wanted), 0)
        return moves

    def other_order(self, p, moves):
        aids = [(AID, p, a, q) for a, (q, water) in moves.items() if q in self.near[p]]
        carries = [(CARRY, p, a, q) for a, (q, water) in moves.items() if water]
        stays = [(STAY, p, q) for q in self.near[p] if q not in moves]
        if self.kinds[p] == OCEAN and carries and self.chance(75):
            return self.pick(carries[:2])
        if aids and self.chance(75):
            return self.pick(aids)
        odd = [(HOLD, p), (AID, p, self.province(), self.province()), (STAY, p, self.province()),
               (CARRY, p, self.province(), self.province())]
        return self.pick(stays + odd)

    def give_orders(self):
        moves = self.plan_moves()
        for p in self.held:
            if p in moves:
                self.calls.append((MOVE, p, moves[p][0], int(self.chance(4)), moves[p][1]))
            else:
                self.calls.append(self.other_order(p, moves))

    def question(self):
        if self.chance(55):
            return (LOOK, self.source.randrange(3), self.occupied())
        return self.pick([(BOUNDS, self.occupied()), (BOUNDS, self.occupied()), (SUPPORT, self.occupied()),
                          (KNOWN,), (UNKNOWN,), (COUNT,), (PASS,)])

    def ask_things(self):
        self.calls += [self.question() for n in range(self.source.randrange(25))] + [(KNOWN,)]
        self.calls += [(BOUNDS, p) for p in self.held if self.chance(50)] + [(ALL,), (KNOWN,), (UNKNOWN,)]
        self.calls += [(BOUNDS, p) for p in self.held] + [(SUPPORT, p) for p in self.held if self.chance(30)]
        self.calls.append(self.pick([(FORGET,), (GONE, self.province()), (HOLD, self.province()), (LOOK, 3, 0),
                                     (CARRY, self.province(), self.size, 0), (PROVINCE, INLAND), (COUNT,)]))
        self.calls += [(COUNT,), (PASS,)]

    def whole(self, length):
        self.lay_board()
        while len(self.calls) < length:
            if self.chance(25):
                self.calls.append((CLEAR,))
                self.lay_board()
            self.give_orders()
            self.ask_things()
        return thinned(self.calls[:length])


def thinned(calls):
    """At most 100 of pass and all are handed in."""
    kept = []
    passes = 0
    for call in calls:
        passes += call[0] in (PASS, ALL)
        kept.append(call if call[0] not in (PASS, ALL) or passes <= 100 else (COUNT,))
    return kept


def most_passes():
    """400 calls on a full table: 24 armies in a column, that all ends only behind 24 passes, 100 times."""
    calls = [(PROVINCE, INLAND)] * 25 + [(LAND, p, p + 1) for p in range(24)]
    calls += [(UNIT, p % 7, ARMY, p, 0) for p in range(24)] + [(MOVE, p, p + 1, 0, 0) for p in range(24)]
    return calls + [(FORGET,), (ALL,), (KNOWN,)] * 100


def most_fleets():
    """23 fleets in a row, all of which carry one army, with a fleet that attacks the last but one."""
    calls = [(PROVINCE, COAST)] * 2 + [(PROVINCE, OCEAN)] * 23
    row = [0] + list(range(2, 24)) + [1]
    calls += [(SEA, p, 0, q, 0) for p, q in zip(row, row[1:])] + [(SEA, 24, 0, 22, 0)]
    calls += [(UNIT, 0, ARMY, 0, 0)] + [(UNIT, p % 7, FLEET, p, 0) for p in row[1:-1]] + [(UNIT, 6, FLEET, 24, 0)]
    calls += [(CARRY, p, 0, 1) for p in row[1:-1]] + [(MOVE, 0, 1, 0, 1), (MOVE, 24, 22, 0, 0)]
    return calls + [(LOOK, 1, 0), (PASS,), (KNOWN,), (ALL,), (KNOWN,), (UNKNOWN,)]


class Whole(unittest.TestCase):
    def check(self, calls):
        self.assertLessEqual(len(calls), 400)
        self.assertLessEqual(sum(call[0] in (PASS, ALL) for call in calls), 100)
        told = read(calls)
        answered = ask(calls)
        for k, call in enumerate(calls):
            self.assertEqual(answered[k], told[k], (k, call, calls[:k]))
        self.assertEqual(len(answered), len(told))
        return answered

    def test_lists_of_400_calls(self):
        for seed in range(60):
            self.check(Maker(seed).whole(400))

    def test_shorter_lists(self):
        for seed in range(1000, 1150):
            self.check(Maker(seed).whole(1 + seed % 150))

    def test_the_lists_meet_every_call_and_every_kind(self):
        done, refused, known = set(), set(), set()
        for seed in range(60):
            calls = Maker(seed).whole(400)
            for call, row in zip(calls, ask(calls), strict=True):
                (done if row[0] == 0 else refused).add(call[0] if row[0] == 0 else (call[0], row[0]))
            reader = Reader()
            for call in calls[:250]:
                reader.answer(call)
                known |= {kind for kind, p in reader.known}
        self.assertEqual(done, set(range(20)))
        self.assertLessEqual({(LOOK, -1), (LOOK, -5), (BOUNDS, -5), (SUPPORT, -5), (CARRY, -1), (CARRY, -5)}, refused)
        self.assertEqual(known, set(KINDS))

    def test_a_full_table_with_100_of_all(self):
        calls = most_passes()
        self.assertEqual(len(calls), 397)
        told = [[0], [0, 24], [0, 24] + list(range(24)) + [0] * 5]
        self.assertEqual(ask(calls)[97:], told * 100)

    def test_a_long_chain(self):
        rows = self.check(most_fleets())
        self.assertEqual(rows[-6:], [[0, 0], [0, 1], [0, 0, 1, 24, 0, 0, 0, 0], [0, 2],
                                     [0, 1, 0, 1, 24, 1, 0, 0, 0, 0], [0, 0]])

    def test_the_list_stays_as_it_was_and_answers_the_same_again(self):
        for seed in range(20):
            calls = flat(Maker(seed).whole(400))
            before = list(calls)
            first = answers(calls)
            self.assertEqual(calls, before)
            self.assertEqual(answers(calls), first)
            self.assertEqual({type(number) for number in first}, {int})

    def test_what_is_known_is_never_both(self):
        for seed in range(20):
            table = Table()
            for call in Maker(seed).whole(200):
                answer_call(table, call[0], list(call[1:]))
                goes, fails, way, none, cut, uncut = [set(kind) for kind in table.known.six_kinds()]
                self.assertEqual((goes & fails) | (way & none) | (cut & uncut), set())
