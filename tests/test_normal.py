import random
import time
import unittest

from ownback.errors import BadHistory, BadMachine, BadTable, NoDeed, NoHand, Refused
from ownback.normal import is_normal, normal, normal_of, renewed
from tests.trying import (
    LAMP, ODD, SMALL, Trying, behind_press, by_table, first_deeds, greatest_table, less, presses_of, random_machines,
    tables_to_try, tried_last, tried_table,
)

MACHINES = SMALL + tuple(random_machines(10, 4, 3, seed=55))
COUNTS = ((), (3,), (2, 1), (1, 1, 1), (2, 2), (0, 2, 0, 1))


def normal_by_words(machine, table):
    """The point's own words: the greatest hand whose last deed can be last, the least deed; ahead of it the rest."""
    letters, counts = [], table[0]
    while any(counts):
        able = [hand for hand in range(len(counts)) if tried_last(machine, table, counts, hand)]
        if not able:
            return None
        letters.append((able[-1], tried_last(machine, table, counts, able[-1])[0]))
        counts = less(counts, able[-1])
    return tuple(letters[::-1]) if table[1][0] == machine[0] else None


def last_first(history):
    """By which a normal history is the greatest one by hands, the least by deeds, looked at from the end."""
    return [(-hand, deed) for hand, deed in reversed(history)]


def cases():
    """Machines, numbers of hands, tables with all their histories."""
    for machine in MACHINES:
        for counts in COUNTS[1:]:
            for table, histories in by_table(machine, counts).items():
                yield machine, len(counts), table, histories


CASES = list(cases())


class Normal(unittest.TestCase, Trying):
    """Point [32]."""

    def test_against_the_words(self):
        for machine, table in tables_to_try():
            expected = normal_by_words(machine, table)
            if expected is None:
                self.fails(Refused, table, normal, machine, table)
            else:
                self.same(normal(machine, table), expected)

    def test_among_all_histories(self):
        for machine, _, table, histories in CASES:
            self.same(normal(machine, table), min(histories, key=last_first))

    def test_nothing_stands(self):
        self.same(normal(LAMP, ((0, 0, 0), (0,))), ())
        self.fails(Refused, ((0, 0, 0), (1,)), normal, LAMP, ((0, 0, 0), (1,)))

    def test_errors_and_lists(self):
        self.untouched(normal, LAMP, ((1, 1), (0, 1, 1, 1)))
        table = [[1, 1], [0, 0, 1, 1]]
        self.fails(Refused, table, normal, LAMP, table)
        for value in ODD:
            is_pair = isinstance(value, (list, tuple)) and len(value) == 2
            self.fails(BadMachine, 1 if is_pair else -1, normal, value, None)
        self.fails(BadTable, -1, normal, LAMP, None)
        self.fails(BadTable, 0, normal, LAMP, ((0,) * 5, (0,)))
        self.fails(BadTable, 1, normal, LAMP, ((1,), (0, 2)))
        self.fails(BadTable, 1, normal, LAMP, ((1,), (0, True)))


class OfHistories(unittest.TestCase, Trying):
    """Points [33] and [34]."""

    def test_one_for_all_that_are_alike(self):
        for machine, hands, table, histories in CASES:
            told = normal_by_words(machine, table)
            self.assertIn(told, histories)
            for history in histories:
                self.same(normal_of(machine, hands, history), told)
                self.same(is_normal(machine, hands, history), history == told)

    def test_renewed(self):
        for machine, hands, _, histories in CASES[::3]:
            history = histories[-1]
            for press in presses_of(machine, hands):
                behind = behind_press(history, press)
                if behind is None:
                    self.fails(Refused, press, renewed, machine, hands, history, press)
                else:
                    told = normal_by_words(machine, tried_table(machine, hands, behind))
                    self.same(renewed(machine, hands, history, press), told)

    def test_lists_are_taken_and_left(self):
        history = ((0, 0), (1, 1))
        self.untouched(normal_of, LAMP, 2, history)
        self.untouched(is_normal, LAMP, 2, history)
        self.same(is_normal(LAMP, 2, [list(letter) for letter in normal_of(LAMP, 2, history)]), True)
        self.untouched(renewed, LAMP, 2, history, ("deed", 1, 0))
        self.untouched(renewed, LAMP, 2, history, ("back", 1))

    def test_errors(self):
        for call, more in ((normal_of, ()), (is_normal, ()), (renewed, (None,))):
            self.fails(BadMachine, 0, call, (2, ((0, 1),)), None, None, *more)
            self.fails(Refused, None, call, LAMP, None, None, *more)
            self.fails(Refused, True, call, LAMP, True, None, *more)
            self.fails(BadHistory, -1, call, LAMP, 4, NoHand(1), *more)
            self.fails(BadHistory, 2, call, LAMP, 4, ((3, 1), [0, 0], (4, 0)), *more)
        for value in ODD:
            self.fails(Refused, value, renewed, LAMP, 2, (), value)
        self.fails(NoHand, 2, renewed, LAMP, 2, (), ("deed", 2, 5))
        self.fails(NoHand, 3, renewed, LAMP, 2, (), ["back", 3])
        self.fails(NoDeed, 2, renewed, LAMP, 2, (), ("deed", 1, 2))
        self.fails(Refused, ("back", 1), renewed, LAMP, 2, ((0, 0),), ("back", 1))


class Holds(unittest.TestCase, Trying):
    """Point [35]."""

    def test_first_letters_are_normal(self):
        for machine, hands, _, histories in CASES:
            row = normal_of(machine, hands, histories[0])
            for at in range(len(row) + 1):
                self.same(is_normal(machine, hands, row[:at]), True)

    def test_behind_presses_the_normal_one_tells_all(self):
        for machine, hands, _, histories in CASES:
            history = histories[len(histories) // 2]
            row = normal_of(machine, hands, history)
            for press in presses_of(machine, hands):
                if behind_press(history, press) is not None:
                    self.same(renewed(machine, hands, row, press), renewed(machine, hands, history, press))

    def test_what_is_left_of_a_normal_one_need_not_be(self):
        machine = (0, ((1, 2, 2), (2, 2, 0)))
        self.same(normal_of(machine, 2, ((0, 1), (1, 0), (0, 0))), ((0, 1), (0, 0), (1, 0)))
        self.assertEqual(first_deeds(((0, 1), (0, 0), (1, 0)), (2, 0)), ((0, 1), (0, 0)))


class Limits(unittest.TestCase, Trying):

    def test_limits(self):
        machine = (0, tuple(tuple((board * deed + 1) % 8 for board in range(8)) for deed in range(6)))
        chance = random.Random(9)
        begun = time.monotonic()
        for counts in ((11, 40), (7, 7, 6), (3, 4, 4, 4), (30,), (1, 1, 1, 50)):
            table = greatest_table(counts, machine, seed=1)
            row = normal(machine, table)
            self.same(tried_table(machine, len(counts), row), table)
        for hands in (1, 2, 3, 4):
            history = tuple((at % hands, chance.randrange(6)) for at in range(12))
            row = normal_of(machine, hands, history)
            self.same(is_normal(machine, hands, row), True)
            for press in presses_of(machine, hands):
                self.assertIn(len(renewed(machine, hands, history, press)), (11, 13))
        self.assertLess(time.monotonic() - begun, 10)
