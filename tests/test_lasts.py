import itertools
import math
import time
import unittest

from ownback.errors import BadMachine, BadTable, NoHand, Refused
from ownback.lasts import barring, bars, is_told, last_deeds, lasts, left_over
from ownback.tables import part_of, with_back
from tests.trying import (
    LAMP, ODD, SMALL, Trying, as_dict, as_lists, by_table, greatest_table, less, tables_to_try, tried_last,
)

TABLE = ((1, 1), (0, 1, 1, 1))
OTHER = ((1, 1), (0, 0, 1, 1))
TRIED = tables_to_try()


def all_left_over(machine, table):
    """What can be left over, whichever last deeds are taken off first."""
    found, come = set(), {table[0]}
    while come:
        counts = come.pop()
        fewer = [less(counts, hand) for hand in range(len(counts)) if tried_last(machine, table, counts, hand)]
        found |= set() if fewer else {counts}
        come |= set(fewer)
    return found


def tried_bars(machine, table, counts):
    if not any(counts):
        return table[1][0] != machine[0]
    return not any(tried_last(machine, table, counts, hand) for hand in range(len(counts)))


class Lasts(unittest.TestCase, Trying):
    """Points [19] and [20]."""

    def test_last_deeds(self):
        for machine, table in TRIED:
            expected = []
            for hand, many in enumerate(table[0]):
                deeds = tried_last(machine, table, table[0], hand)
                if many == 0:
                    self.fails(Refused, hand, last_deeds, machine, table, hand)
                else:
                    self.same(last_deeds(machine, table, hand), deeds)
                expected += [(hand, deeds[0])] if deeds else []
            self.same(lasts(machine, table), tuple(expected))

    def test_of_histories_they_are_the_last_letters(self):
        for machine in SMALL[1:8]:
            for counts in ((2,), (2, 1), (1, 1, 1)):
                for table, histories in by_table(machine, counts).items():
                    letters = {history[-1] for history in histories}
                    told = {(hand, deed) for hand, many in enumerate(counts) if many
                            for deed in last_deeds(machine, table, hand)}
                    self.assertEqual(told, letters)

    def test_left_over_whichever_is_taken_off_first(self):
        for machine, table in TRIED:
            self.assertEqual(all_left_over(machine, table), {left_over(machine, table)})
            self.same(left_over(machine, table), tuple(left_over(machine, table)))

    def test_what_can_be_last_stays_so(self):
        for machine, table in TRIED[::5]:
            hands = [hand for hand, many in enumerate(table[0]) if many]
            for one, other in itertools.permutations(hands, 2):
                if last_deeds(machine, table, one) and last_deeds(machine, table, other):
                    behind = last_deeds(machine, with_back(table, other), one)
                    self.assertLessEqual(set(last_deeds(machine, table, one)), set(behind))

    def test_lists_are_taken_and_left(self):
        self.untouched(last_deeds, LAMP, TABLE, 0)
        for call in (lasts, left_over, is_told, barring):
            self.untouched(call, LAMP, TABLE)
            self.untouched(call, LAMP, OTHER)
        self.untouched(bars, LAMP, OTHER, (0, 1))

    def test_errors(self):
        for call in (lasts, left_over, is_told, barring):
            self.fails(BadMachine, 1, call, (0, ()), None)
            self.fails(BadTable, -1, call, LAMP, None)
            self.fails(BadTable, 0, call, LAMP, ((), None))
            self.fails(BadTable, 1, call, LAMP, ((0,), (2,)))
        for call in (last_deeds, bars):
            self.fails(BadMachine, -1, call, None, None, None)
            self.fails(BadTable, 1, call, LAMP, ((1,), (0, 2)), None)
        for value in (None, True, False, -1, 2, "0", (), [0], 10 ** 30, NoHand(0)):
            self.fails(NoHand, value, last_deeds, LAMP, TABLE, value)
        self.fails(Refused, 1, last_deeds, LAMP, ((1, 0), (0, 0)), 1)


class Told(unittest.TestCase, Trying):
    """Point [21]."""

    def test_against_all_histories(self):
        told = {}
        for machine, table in TRIED:
            if (machine, table[0]) not in told:
                told[machine, table[0]] = set(by_table(machine, table[0]))
            self.same(is_told(machine, table), table in told[machine, table[0]])

    def test_nothing_stands(self):
        for counts in ((0,), (0, 0, 0, 0)):
            self.same((is_told(LAMP, (counts, (0,))), is_told(LAMP, (counts, (1,)))), (True, False))


class Bars(unittest.TestCase, Trying):
    """Point [22]."""

    def test_against_all_counts(self):
        for machine, table in TRIED:
            barred = []
            for counts in as_dict(table):
                self.same(bars(machine, table, counts), tried_bars(machine, table, counts))
                barred += [counts] if tried_bars(machine, table, counts) else []
            greatest = barring(machine, table)
            self.assertEqual(is_told(machine, table), not barred)
            if barred:
                self.assertIn(greatest, barred)
                self.same(greatest, tuple(max(counts[hand] for counts in barred) for hand in range(len(table[0]))))
            else:
                self.same(greatest, None)

    def test_it_is_the_part_that_is_barred(self):
        for machine, table in TRIED[::7]:
            for counts in as_dict(table):
                if any(counts):
                    self.assertEqual(bars(machine, table, counts), lasts(machine, part_of(table, counts)) == ())

    def test_any_value(self):
        self.same(bars(LAMP, OTHER, [0, 1]), True)
        for value in [value for value in ODD if value not in ((0, 0),)] + [
                (0, 2), (0,), (0, 1, 0), (False, True), (0, True), (-1, 1), "01", (0, "1"), ((0, 1),), (0, 10 ** 30)]:
            self.same(bars(LAMP, OTHER, value), False)

    def test_limits(self):
        machine = (0, tuple(tuple((board * deed + 1) % 8 for board in range(8)) for deed in range(6)))
        begun = time.monotonic()
        for counts in ((1999,), (43, 44), (11, 12, 11), (5, 6, 6, 5), (1, 1, 1, 249)):
            size = math.prod(many + 1 for many in counts)
            table = greatest_table(counts, machine) if sum(counts) < 40 else (counts, (0, 1) * (size // 2))
            told = is_told(machine, table)
            self.assertEqual(told, barring(machine, table) is None)
            self.assertEqual(bars(machine, as_lists(table), list(left_over(machine, table))), not told)
            self.assertLessEqual(len(lasts(machine, table)), len(counts))
        self.same(is_told((0, ((1, 0),)), ((1999,), (0, 1) * 1000)), True)
        self.same(is_told((0, ((1, 0),)), ((43, 44), tuple((at % 45 + at // 45) % 2 for at in range(1980)))), True)
        self.assertLess(time.monotonic() - begun, 10)
