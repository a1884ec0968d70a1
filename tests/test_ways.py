import itertools
import math
import time
import unittest

from ownback.errors import BadMachine, BadTable, Refused
from ownback.ways import (
    greatest_way, is_way, least_way, lower_way, upper_way, way_history, way_of, way_order, ways_many,
)
from tests.trying import LAMP, ODD, SMALL, Trying, by_table, random_machines, tables_to_try

TABLE = ((1, 1), (0, 1, 1, 1))
UNTOLD = ((1, 1), (0, 0, 1, 1))
NO_RISING = [value for value in ODD if value not in ((), [], (0, 0), (0, 0, 0))] + [
    (1, 0), (0, 2, 1), (-1, 0), (0, True), (False, 1), (0, None), "01", (0, "1"), ((0,), 1), [0, 1, 0],
]


def cases():
    for machine in SMALL + tuple(random_machines(8, 3, 2, seed=51)):
        for counts in ((0, 0), (2, 0), (0, 2), (1, 2), (2, 1), (2, 2)):
            for table, histories in by_table(machine, counts).items():
                yield machine, table, histories


def tried_way(order):
    return tuple(order[:at].count(1) for at, hand in enumerate(order) if hand == 0)


def rising_rows(length, most):
    return list(itertools.combinations_with_replacement(range(most + 1), length))


def lies_between(low, row, high):
    return all(a <= b <= c for a, b, c in zip(low, row, high))


class Ways(unittest.TestCase, Trying):
    """Point [27]: ways and orders."""

    def test_each_the_others_way_back(self):
        for length in range(7):
            for order in itertools.product((0, 1), repeat=length):
                self.same(way_of(order), tried_way(order))
                self.same(way_order(way_of(order), order.count(1)), order)
                self.untouched(way_of, order)
        for row in rising_rows(3, 4):
            for many in range(row[-1], 6):
                self.same(way_of(way_order(row, many)), row)
        self.same((way_of(()), way_order([], 2), way_order((), 0)), ((), (1, 1), ()))
        self.untouched(way_order, (1, 2), 3)

    def test_wrong_orders(self):
        for value in [value for value in ODD if value not in ((), [], (0, 0), (1, 0, 0), (0, 0, 0))] + [
                (0, 2), (0, True), (False,), "01", (0, None), ((0,), 1), (0, -1)]:
            self.fails(Refused, value, way_of, value)

    def test_wrong_ways(self):
        for value in NO_RISING:
            self.fails(Refused, value, way_order, value, None)
        for value in (None, True, -1, 1, "3", (), Refused(0)):
            self.fails(Refused, value, way_order, (1, 2), value)
        self.fails(Refused, -1, way_order, (), -1)
        self.fails(Refused, 6, way_order, (7,), 6)


class OfTables(unittest.TestCase, Trying):
    """Point [27]: the ways of a table."""

    def test_just_those_between_least_and_greatest(self):
        for machine, table, histories in cases():
            told = {}
            for history in histories:
                told.setdefault(tried_way([hand for hand, _ in history]), history)
            low, high = least_way(machine, table), greatest_way(machine, table)
            mine, others = table[0]
            self.assertIn(low, told)
            self.assertIn(high, told)
            self.same(ways_many(low, high), len(told))
            for row in rising_rows(mine, others):
                self.same(is_way(machine, table, row), row in told)
                self.assertEqual(lies_between(low, row, high), row in told)
                if row in told:
                    self.same(way_history(machine, table, list(row)), told[row])
                else:
                    self.fails(Refused, row, way_history, machine, table, row)
            for one, other in itertools.product(told, repeat=2):
                self.assertIn(lower_way(one, other), told)
                self.assertIn(upper_way(one, other), told)

    def test_any_value_that_is_none(self):
        for value in [value for value in ODD] + [
                (), (2,), (0, 0), (0, 1), (True,), (-1,), ("0",), "0", ((0,),), (10 ** 30,), [False]]:
            self.same(is_way(LAMP, TABLE, value), False)
            self.fails(Refused, value, way_history, LAMP, TABLE, value)
        self.same(is_way(SMALL[0], ((2, 1), (0,) * 6), (0, 10 ** 30)), False)
        self.untouched(is_way, LAMP, TABLE, (1,))
        self.untouched(way_history, LAMP, TABLE, (1,))
        self.untouched(least_way, LAMP, TABLE)
        self.untouched(greatest_way, LAMP, TABLE)

    def test_tables_that_have_no_ways(self):
        unfit = [UNTOLD, ((1,), (0, 1)), ((1, 0, 0), (0, 1)), ((0, 0), (1,)), [[0, 0, 0, 0], [0]]]
        for table in unfit:
            self.refused(LAMP, table)
        for machine, table in tables_to_try()[:900:3]:
            if len(table[0]) != 2 or table not in by_table(machine, table[0]):
                self.refused(machine, table)

    def refused(self, machine, table):
        for call in (least_way, greatest_way):
            self.fails(Refused, table, call, machine, table)
        for call in (is_way, way_history):
            self.fails(Refused, table, call, machine, table, None)

    def test_machine_and_table_first(self):
        for call in (least_way, greatest_way):
            self.fails(BadMachine, -1, call, None, None)
            self.fails(BadTable, 1, call, LAMP, ((0,), (9,)))
        for call in (is_way, way_history):
            self.fails(BadMachine, 1, call, (0, ()), None, None)
            self.fails(BadTable, -1, call, LAMP, None, None)


class Rows(unittest.TestCase, Trying):
    """Point [27]: rising rows."""

    def test_lesser_and_greater_numbers(self):
        for one, other in itertools.product(rising_rows(3, 3), repeat=2):
            self.same(lower_way(one, other), tuple(min(pair) for pair in zip(one, other)))
            self.same(upper_way(one, other), tuple(max(pair) for pair in zip(one, other)))
        self.untouched(lower_way, (0, 2), (1, 1))
        self.untouched(upper_way, (0, 2), (1, 1))
        self.same((lower_way([], ()), upper_way((), [])), ((), ()))

    def test_how_many_lie_between(self):
        rows = {length: rising_rows(length, 3) for length in range(4)}
        for length, told in rows.items():
            for low, high in itertools.product(told, repeat=2):
                if all(least <= greatest for least, greatest in zip(low, high)):
                    self.same(ways_many(low, high), sum(lies_between(low, row, high) for row in told))
                else:
                    self.fails(Refused, high, ways_many, low, high)
        self.same(ways_many((2, 5), (3, 9)), 10)
        self.untouched(ways_many, (0, 1), (2, 2))

    def test_errors(self):
        for call in (lower_way, upper_way, ways_many):
            for value in NO_RISING:
                self.fails(Refused, value, call, value, None)
                self.fails(Refused, value, call, (0, 0), value)
            for value in ((), (0,), [0, 0, 0]):
                self.fails(Refused, value, call, (0, 0), value)
        self.fails(Refused, (0, 2), ways_many, (1, 1), (0, 2))

    def test_limits(self):
        begun = time.monotonic()
        self.same(ways_many((0,) * 12, (30,) * 12), math.comb(42, 12))
        self.same(ways_many((0,) * 200, (200,) * 200), math.comb(400, 200))
        way = tuple(range(0, 200, 2))
        self.same(way_of(way_order(way, 300)), way)
        free = (0, ((0,),))
        for counts in ((13, 13), (1, 99), (99, 1)):
            table = (counts, (0,) * ((counts[0] + 1) * (counts[1] + 1)))
            self.same(least_way(free, table), (0,) * counts[0])
            self.same(greatest_way(free, table), (counts[1],) * counts[0])
            self.same(is_way(free, table, greatest_way(free, table)), True)
        self.assertLess(time.monotonic() - begun, 5)
