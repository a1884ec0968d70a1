import itertools
import random
import time
import unittest

from ownback.antimatroid import (
    all_histories, beginnings, by_order, histories_many, is_order, nth_history, orders_many, step_deeds,
)
from ownback.errors import BadMachine, BadTable, NoHand, Refused, TooGreat
from tests.trying import (
    LAMP, ODD, SMALL, Trying, all_tables, as_dict, by_table, greatest_table, histories_with, random_machines,
    tables_to_try, within,
)

TABLE = ((1, 1), (0, 1, 1, 1))
UNTOLD = ((1, 1), (0, 0, 1, 1))
TRIED = tables_to_try()


def cases():
    """Machines, tables of histories, and all of their histories."""
    for machine in SMALL + tuple(random_machines(8, 3, 2, seed=41)):
        for counts in ((0, 0), (2,), (2, 1), (1, 1, 1), (2, 2), (0, 2, 0, 1)):
            for table, histories in by_table(machine, counts).items():
                yield machine, table, histories


CASES = list(cases())


def tried_steps(machine, table, counts, hand):
    entries = as_dict(table)
    found = []
    for deed, moves in enumerate(machine[1]):
        if all(moves[entries[vector]] == entries[tuple(many + (place == hand) for place, many in enumerate(vector))]
               for vector in entries if within(vector, counts) and vector[hand] == counts[hand]):
            found.append(deed)
    return tuple(found)


def tried_beginnings(histories, hands):
    found = set()
    for history in histories:
        for at in range(len(history) + 1):
            found.add(tuple(sum(letter[0] == hand for letter in history[:at]) for hand in range(hands)))
    return tuple(sorted(found))


class Steps(unittest.TestCase, Trying):
    """Point [23]."""

    def test_against_the_words(self):
        for machine, table in TRIED[::3]:
            for counts in as_dict(table):
                for hand, many in enumerate(counts):
                    if many == table[0][hand]:
                        self.fails(Refused, hand, step_deeds, machine, table, counts, hand)
                    else:
                        steps = tried_steps(machine, table, counts, hand)
                        self.same(step_deeds(machine, table, counts, hand), steps)

    def test_rows_of_steps_are_just_the_histories(self):
        for machine, table in [case for case in TRIED if sum(case[1][0]) < 5][::4]:
            told = set(by_table(machine, table[0]).get(table, []))
            for history in histories_with(machine, table[0]):
                self.assertEqual(self.steps_hold(machine, table, history), history in told)

    def steps_hold(self, machine, table, history):
        done = [0] * len(table[0])
        for hand, deed in history:
            if deed not in step_deeds(machine, table, done, hand):
                return False
            done[hand] += 1
        return table[1][0] == machine[0]

    def test_done_at_all_lesser_counts(self):
        for machine, table in TRIED[::9]:
            for high, low in itertools.product(as_dict(table), repeat=2):
                for hand, many in enumerate(low):
                    if within(low, high) and many == high[hand] < table[0][hand]:
                        self.assertLessEqual(set(step_deeds(machine, table, high, hand)),
                                             set(step_deeds(machine, table, low, hand)))

    def test_errors(self):
        self.fails(BadMachine, -1, step_deeds, None, None, None, None)
        self.fails(BadTable, 0, step_deeds, LAMP, ((), ()), None, None)
        for value in [value for value in ODD if value not in ((0, 0), [False, False])] + [
                [False, False], (2, 0), (0, 2), (0,), (0, 0, 0), (0, True), "00", (0, -1)]:
            self.fails(Refused, value, step_deeds, LAMP, TABLE, value, None)
        for value in (None, True, False, -1, 2, "0", (), [0], 10 ** 30, NoHand(0)):
            self.fails(NoHand, value, step_deeds, LAMP, TABLE, (1, 1), value)
        self.fails(Refused, 0, step_deeds, LAMP, TABLE, (1, 0), 0)
        self.untouched(step_deeds, LAMP, TABLE, (0, 1), 0)


class Histories(unittest.TestCase, Trying):
    """Point [24]."""

    def test_against_all_histories(self):
        for machine, table, histories in CASES:
            many = len(histories)
            self.same(histories_many(machine, table), many)
            self.same(all_histories(machine, table, most=many), tuple(histories))
            self.same(orders_many(machine, table), len({tuple(hand for hand, _ in row) for row in histories}))
            for number in {0, many // 2, many - 1}:
                self.same(nth_history(machine, table, number), histories[number])
            self.fails(Refused, many, nth_history, machine, table, many)
            if many > 1:
                self.fails(TooGreat, many - 1, all_histories, machine, table, most=many - 1)

    def test_each_number(self):
        machine, table, histories = max(CASES, key=lambda case: len(case[2]))
        self.same([nth_history(machine, table, number) for number in range(len(histories))], histories)

    def test_tables_that_no_history_has(self):
        for machine, counts in ((LAMP, (1, 1)), (LAMP, (2,)), (SMALL[6], (1, 0)), (SMALL[6], (0, 0))):
            told = by_table(machine, counts)
            for table in all_tables(machine, counts):
                if table not in told:
                    self.same((histories_many(machine, table), orders_many(machine, table)), (0, 0))
                    self.same(all_histories(machine, table, most=1), ())
                    self.same(beginnings(machine, table), ())
                    self.fails(Refused, 0, nth_history, machine, table, 0)

    def test_errors(self):
        for call in (histories_many, orders_many, beginnings):
            self.fails(BadMachine, -1, call, None, None)
            self.fails(BadTable, 1, call, LAMP, ((0,), (2,)))
            self.untouched(call, LAMP, TABLE)
        self.fails(BadMachine, -1, all_histories, (), None, most=1)
        self.fails(BadTable, -1, all_histories, LAMP, (), most=1)
        self.untouched(all_histories, LAMP, TABLE, most=9)
        self.untouched(nth_history, LAMP, TABLE, 2)
        for call in (nth_history, by_order, is_order):
            self.fails(BadMachine, 0, call, (1, ((0,),)), None, None)
            self.fails(BadTable, -1, call, LAMP, None, None)
        for value in (None, True, False, -1, 4, "0", (), [0], 10 ** 30, Refused(0)):
            self.fails(Refused, value, nth_history, LAMP, TABLE, value)


class Orders(unittest.TestCase, Trying):
    """Point [25]."""

    def test_against_all_histories(self):
        for machine, table, histories in CASES:
            least = {}
            for history in histories:
                least.setdefault(tuple(hand for hand, _ in history), history)
            hands = [hand for hand, many in enumerate(table[0]) for _ in range(many)]
            for order in set(itertools.permutations(hands)):
                self.same(is_order(machine, table, order), order in least)
                if order in least:
                    self.same(by_order(machine, table, list(order)), least[order])
                else:
                    self.fails(Refused, order, by_order, machine, table, order)

    def test_any_value(self):
        for value in [value for value in ODD] + [
                (0,), (0, 0), (1, 1), (0, 1, 0), (0, 1, 1), (0, 2), (0, True), (False, 1), "01", (0, "1"), (0, -1),
                ([0], 1), (1,), (0, 10 ** 30)]:
            self.same(is_order(LAMP, TABLE, value), False)
            self.fails(Refused, value, by_order, LAMP, TABLE, value)
            self.same(is_order(LAMP, UNTOLD, value), False)
        self.same(is_order(LAMP, UNTOLD, (0, 1)), False)
        self.same(is_order(LAMP, ((0,), (1,)), ()), False)
        self.same((is_order(LAMP, ((0,), (0,)), []), by_order(LAMP, ((0,), (0,)), [])), (True, ()))
        self.untouched(is_order, LAMP, TABLE, (1, 0))
        self.untouched(by_order, LAMP, TABLE, (1, 0))


class Beginnings(unittest.TestCase, Trying):
    """Point [26]."""

    def test_against_all_histories(self):
        for machine, table, histories in CASES:
            self.same(beginnings(machine, table), tried_beginnings(histories, len(table[0])))

    def test_antimatroid(self):
        for machine, table, _ in CASES[::2]:
            told = beginnings(machine, table)
            for one, other in itertools.product(told, repeat=2):
                self.assertIn(tuple(min(pair) for pair in zip(one, other)), told)
            for counts in told:
                fewer = [tuple(many - (place == hand) for place, many in enumerate(counts))
                         for hand in range(len(counts))]
                self.assertTrue(not any(counts) or any(below in told for below in fewer))


class Limits(unittest.TestCase, Trying):

    def test_tables_of_two_hundred_entries(self):
        machine = (0, tuple(tuple((board * deed + 1) % 8 for board in range(8)) for deed in range(6)))
        free = (0, ((0,),) * 6)
        begun = time.monotonic()
        for counts in ((13, 13), (4, 5, 5), (2, 2, 4, 3)):
            self.told_throughout(machine, greatest_table(counts, machine))
            self.told_throughout(free, greatest_table(counts, free))
        self.told_throughout(free, ((199,), (0,) * 200))
        self.assertEqual(histories_many(free, ((199,), (0,) * 200)), 6 ** 199)
        self.assertEqual(orders_many((0, ((0,),)), ((99, 1), (0,) * 200)), 100)
        self.assertLess(time.monotonic() - begun, 15)

    def told_throughout(self, machine, table):
        many = histories_many(machine, table)
        self.assertGreaterEqual(many, max(1, orders_many(machine, table)))
        history = nth_history(machine, table, random.Random(1).randrange(many))
        order = tuple(hand for hand, _ in history)
        self.assertTrue(is_order(machine, table, order))
        self.assertLessEqual(by_order(machine, table, order), history)
        self.assertEqual(beginnings(machine, table)[-1], table[0])
        if many > 2000:
            self.fails(TooGreat, 2000, all_histories, machine, table, most=2000)
        else:
            self.assertEqual(len(all_histories(machine, table, most=2000)), many)

    def test_many_long_histories(self):
        begun = time.monotonic()
        found = all_histories((0, ((0,),)), ((61, 2), (0,) * 186), most=2000)
        self.assertEqual(len(found), 1953)
        self.assertEqual(list(found), sorted(set(found)))
        self.assertLess(time.monotonic() - begun, 10)
