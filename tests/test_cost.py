import itertools
import time
import unittest

from ownback.cost import clash, costs_nothing, kinds_beside, rims_hold, two_of_one_rim
from ownback.counts import count
from ownback.errors import BadMachine, NoHand, Refused, TooGreat
from tests.trying import (
    LAMP, ODD, SMALL, Trying, all_rows, as_dict, by_table, histories_with, lead, random_machines, tried_table,
)

SETTING = (0, ((0, 0, 0), (1, 2, 1)))
MACHINES = SMALL + tuple(random_machines(30, 3, 3, seed=81)) + tuple(random_machines(30, 5, 2, seed=82))


def tried_rims(table):
    counts = table[0]
    entries = as_dict(table)
    return [tuple(board for vector, board in sorted(entries.items()) if sum(vector) == vector[hand])
            for hand in range(len(counts))]


def tried_clash(machine):
    """The first row of deeds to a board at which two deeds do not commute, and the least two."""
    deeds = range(len(machine[1]))
    for row in all_rows(deeds, len(machine[1][0]) - 1):
        board = lead(machine, machine[0], row)
        for one, other in itertools.combinations(deeds, 2):
            if lead(machine, board, (one, other)) != lead(machine, board, (other, one)):
                return row, one, other
    return None


class Beside(unittest.TestCase, Trying):
    """Point [48]."""

    def test_against_all_histories(self):
        for machine in MACHINES[:24]:
            for counts in ((0,), (3,), (2, 1), (0, 2), (1, 1, 1), (1, 0, 1, 1)):
                alone = 1
                for many in counts:
                    alone *= len(by_table(machine, (many,)))
                self.same(kinds_beside(machine, counts, most=2000), (len(by_table(machine, counts)), alone))

    def test_each_choice_of_rims_comes(self):
        for machine in MACHINES[:16]:
            found = {tuple(tried_rims(table)) for table in by_table(machine, (2, 1, 1))}
            rims = [[tried_rims(table)[0] for table in by_table(machine, (many,))] for many in (2, 1, 1)]
            self.assertEqual(found, set(itertools.product(*rims)))
            kinds, alone = kinds_beside(machine, (2, 1, 1), most=2000)
            self.assertEqual(alone, len(found))
            self.assertLessEqual(alone, kinds)

    def test_searches(self):
        for machine in MACHINES[:12]:
            for most in (1, 2, 3, 5, 8, 40):
                try:
                    told = count(machine, (2, 2), most=most)
                    self.same(kinds_beside(machine, (2, 2), most=most)[0], told)
                except TooGreat:
                    self.fails(TooGreat, most, kinds_beside, machine, (2, 2), most=most)

    def test_errors_and_lists(self):
        self.fails(BadMachine, 1, kinds_beside, (0, ()), None, most=1)
        for value in (None, 3, (), (0,) * 5, (-1,), (True,), [None], "11", ((1,),), NoHand(0)):
            self.fails(Refused, value, kinds_beside, LAMP, value, most=1)
        self.untouched(kinds_beside, LAMP, (1, 2), most=99)

    def test_limits(self):
        begun = time.monotonic()
        for machine in random_machines(12, 3, 2, seed=83):
            for counts in ((2, 2, 2), (6, 6), (12,), (4, 1, 1)):
                try:
                    kinds, alone = kinds_beside(machine, counts, most=2000)
                    self.assertLessEqual(alone, kinds)
                except TooGreat as error:
                    self.assertEqual(error.most, 2000)
        self.assertLess(time.monotonic() - begun, 20)


class Clashes(unittest.TestCase, Trying):
    """Point [49]."""

    def test_against_all_rows(self):
        for machine in MACHINES:
            if len(machine[1]) ** (len(machine[1][0]) - 1) < 3000:
                told = tried_clash(machine)
                self.same(clash(machine), told)
                self.same(costs_nothing(machine), told is None)

    def test_two_of_one_rim(self):
        for machine in MACHINES:
            found = clash(machine)
            two = two_of_one_rim(machine)
            if found is None:
                self.same(two, None)
                continue
            row, one, other = found
            ahead = tuple((0, deed) for deed in row)
            self.same(two, (ahead + ((0, one), (1, other)), ahead + ((1, other), (0, one))))
            self.same(rims_hold(machine, 2, two), True)
            tables = [tried_table(machine, 2, history) for history in two]
            self.assertEqual(tried_rims(tables[0]), tried_rims(tables[1]))
            self.assertNotEqual(tables[0], tables[1])

    def test_rims_hold_against_all_histories(self):
        for machine in (LAMP, SMALL[3], SMALL[6], SETTING):
            some = histories_with(machine, (1, 1)) + histories_with(machine, (2, 1))[::3] + [(), ((0, 0),)]
            for one, other in itertools.product(some, repeat=2):
                left, right = tried_table(machine, 2, one), tried_table(machine, 2, other)
                told = left[0] == right[0] and tried_rims(left) == tried_rims(right) and left != right
                self.same(rims_hold(machine, 2, (one, other)), told)

    def test_any_value(self):
        two = two_of_one_rim(SETTING)
        self.same(rims_hold(SETTING, 2, [[list(letter) for letter in history] for history in two]), True)
        for value in list(ODD) + [two[:1], two + two[:1], (two[0], None), (two[0], two[1] + (None,)), (None, two[1]),
                                  (two[0], ((1, 1), (0, True))), (two[0], ((2, 1), (0, 0))), (two[0], ((1, 2), (0, 0))),
                                  (two[0], two[0]), "ab"]:
            self.same(rims_hold(SETTING, 2, value), False)
        self.same(rims_hold(SETTING, 1, two), False)
        self.same(rims_hold(SETTING, 4, two), True)

    def test_errors_and_lists(self):
        for call in (clash, costs_nothing, two_of_one_rim):
            for value in ODD:
                with self.assertRaises(BadMachine):
                    call(value)
            self.fails(BadMachine, 0, call, (2, ((0, 1),)))
            self.untouched(call, SETTING)
        self.fails(BadMachine, -1, rims_hold, None, None, None)
        for value in (None, 0, 5, True, "2", (1,)):
            self.fails(Refused, value, rims_hold, LAMP, value, None)
        self.untouched(rims_hold, SETTING, 2, two_of_one_rim(SETTING))

    def test_limits(self):
        begun = time.monotonic()
        for machine in random_machines(300, 8, 6, seed=84):
            two = two_of_one_rim(machine)
            if two is not None:
                self.same(rims_hold(machine, 4, two), True)
        history = tuple((at % 4, 0) for at in range(12))
        self.same(rims_hold(SETTING, 4, (history, history[::-1])), False)
        self.assertLess(time.monotonic() - begun, 10)


class Theorem(unittest.TestCase, Trying):
    """Point [50]."""

    def test_nothing_exactly_if_no_clash(self):
        for machine in MACHINES:
            free = [kinds_beside(machine, counts, most=5000) for counts in ((1, 1), (2, 1), (1, 2), (1, 1, 1), (2, 2))]
            found = clash(machine)
            if found is None:
                self.assertTrue(all(kinds == alone for kinds, alone in free))
            else:
                kinds, alone = kinds_beside(machine, (len(found[0]) + 1, 1), most=5000)
                self.assertGreater(kinds, alone)
