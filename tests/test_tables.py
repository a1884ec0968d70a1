import itertools
import time
import unittest

from ownback.errors import BadHistory, BadMachine, BadTable, NoDeed, NoHand, Refused
from ownback.tables import (
    alike, check_table, entry, first_table, part_of, place_of, rim, table_of, top_board, vectors, with_back, with_deed,
)
from tests.trying import (
    LAMP, ODD, SMALL, Trying, all_rows, as_dict, greatest_table, histories_with, lead, presses_of, random_machines,
    tried_table,
)

MACHINE = (0, ((1, 2, 2), (2, 2, 0)))
TABLE = ((2, 1), (0, 2, 1, 2, 2, 0))
COUNTS = ((0,), (3,), (0, 0), (1, 2), (2, 0, 1), (1, 1, 1, 1), (0, 3, 0, 1))
NO_COUNTS = [value for value in ODD if value not in ((0, 0), (1, 0, 0), (0, 0, 0))] + [
    (), [], (1, 1, 1, 1, 1), (1, -1), (True,), (0, None), "1", ("1",), ((1,),), [[1]],
]
NO_HANDS = (None, True, False, -1, 2, "0", (), [0], 10 ** 30, NoHand(0))
BAD_TABLES = [
    (None, -1), (True, -1), (5, -1), ("ab", -1), ((), -1), ((0,), -1), (((0,), (0,), 0), -1), (BadTable(0), -1),
    ((None, None), 0), (((), (0,)), 0), ((0, (0,)), 0), (((0,) * 5, (0,)), 0), (((-1,), ()), 0), (((True,), (0, 0)), 0),
    (("0", (0,)), 0), (((None,), (0,)), 0), ((((0,),), (0,)), 0),
    (((0,), None), 1), (((0,), 0), 1), (((0,), ()), 1), (((0,), (0, 0)), 1), (((1,), (0,)), 1), (((1, 1), (0,) * 3), 1),
    (((0,), (-1,)), 1), (((0,), (True,)), 1), (((0,), ("0",)), 1), (((0,), "0"), 1), (((0,), (8,)), 1),
    (((10 ** 30,), (0,)), 1), (((0,), ((0,),)), 1),
]


def vectors_by_hand(counts):
    return tuple(itertools.product(*[range(many + 1) for many in counts]))


class Vectors(unittest.TestCase, Trying):
    """Point [15]: counts and vectors."""

    def test_vectors(self):
        for counts in COUNTS:
            self.same(vectors(counts), vectors_by_hand(counts))
            self.untouched(vectors, counts)
            for place, vector in enumerate(vectors_by_hand(counts)):
                self.same(place_of(counts, vector), place)
            self.untouched(place_of, counts, counts)

    def test_wrong(self):
        for value in NO_COUNTS:
            self.fails(Refused, value, vectors, value)
            self.fails(Refused, value, place_of, value, None)
        for value in [value for value in ODD if value not in ((0, 0),)] + [(2, 0), (0, 3), (0,), (0, 0, 0), (0, True)]:
            if value != [False, False]:
                self.fails(Refused, value, place_of, (1, 2), value)
        self.fails(Refused, [False, False], place_of, (1, 2), [False, False])


class Tables(unittest.TestCase, Trying):
    """Point [15]: tables."""

    def test_table_of(self):
        for machine in SMALL:
            for counts in ((0,), (3,), (2, 1), (0, 2), (1, 1, 1)):
                for history in histories_with(machine, counts):
                    self.same(table_of(machine, len(counts), history), tried_table(machine, len(counts), history))
        self.same(table_of(MACHINE, 4, [[3, 1]]), ((0, 0, 0, 1), (0, 2)))
        self.untouched(table_of, MACHINE, 2, ((0, 0), (1, 1), (0, 1)))

    def test_check_table(self):
        for counts in ((0,), (2,), (1, 1), (0, 1, 0, 1)):
            entries = tuple(place % 3 for place in range(len(vectors_by_hand(counts))))
            self.same(check_table(MACHINE, [list(counts), list(entries)]), (counts, entries))
        self.untouched(check_table, MACHINE, TABLE)

    def test_any_value_that_is_none(self):
        for value, at in BAD_TABLES:
            self.fails(BadTable, at, check_table, MACHINE, value)
            self.fails(BadTable, at, entry, value, None)
            self.fails(BadTable, at, top_board, value)
            self.fails(BadTable, at, part_of, value, None)
            self.fails(BadTable, at, rim, value, None)
            self.fails(BadTable, at, with_deed, MACHINE, value, None, None)
            self.fails(BadTable, at, with_back, value, None)
        self.fails(BadTable, 1, check_table, MACHINE, ((0,), (3,)))
        self.fails(BadTable, 1, with_deed, MACHINE, ((0,), (3,)), None, None)
        self.same(top_board([[0], [7]]), 7)

    def test_errors_of_table_of(self):
        self.fails(BadMachine, -1, table_of, None, 0, None)
        self.fails(Refused, 0, table_of, MACHINE, 0, None)
        self.fails(BadHistory, -1, table_of, MACHINE, 2, None)
        self.fails(BadHistory, 1, table_of, MACHINE, 2, ((0, 0), (0, 2)))
        self.fails(BadMachine, 1, check_table, (0, ()), None)


class LookedUp(unittest.TestCase, Trying):
    """Point [16]."""

    def tables(self):
        for machine in SMALL:
            for counts in ((0,), (2,), (2, 1), (1, 0, 2), (1, 1, 1, 1)):
                yield greatest_table(counts, machine, seed=5)

    def test_entries_parts_and_rims(self):
        for table in self.tables():
            told = as_dict(table)
            self.same(top_board(table), told[table[0]])
            for vector, board in told.items():
                self.same(entry(table, vector), board)
                inner = tuple(told[low] for low in vectors_by_hand(vector))
                self.same(part_of(table, vector), (vector, inner))
            for hand, many in enumerate(table[0]):
                row = [tuple(number if place == hand else 0 for place in range(len(table[0])))
                       for number in range(many + 1)]
                self.same(rim(table, hand), tuple(told[vector] for vector in row))

    def test_lists_are_taken_and_left(self):
        self.untouched(entry, TABLE, (1, 1))
        self.untouched(top_board, TABLE)
        self.untouched(part_of, TABLE, (1, 1))
        self.untouched(rim, TABLE, 0)

    def test_wrong(self):
        for value in [value for value in ODD if value not in ((0, 0), [False, False])] + [
                [False, False], (3, 0), (0, 2), (0,), (0, 0, 0), (0, -1), "00"]:
            self.fails(Refused, value, entry, TABLE, value)
            self.fails(Refused, value, part_of, TABLE, value)
        for value in NO_HANDS:
            self.fails(NoHand, value, rim, TABLE, value)


class Pressed(unittest.TestCase, Trying):
    """Point [17]."""

    def test_presses_of_tables(self):
        for machine in SMALL[:7]:
            self.same(first_table(machine, 3), ((0, 0, 0), (machine[0],)))
            for history in histories_with(machine, (2, 1)):
                table = table_of(machine, 2, history)
                for press in presses_of(machine, 2):
                    if press[0] == "deed":
                        behind = tried_table(machine, 2, history + (press[1:],))
                        self.same(with_deed(machine, table, press[1], press[2]), behind)
                    else:
                        last = max(at for at, letter in enumerate(history) if letter[0] == press[1])
                        behind = tried_table(machine, 2, history[:last] + history[last + 1:])
                        self.same(with_back(table, press[1]), behind)

    def test_of_tables_that_no_history_has(self):
        for entries in itertools.product(range(2), repeat=4):
            told = as_dict(((1, 1), entries))
            for hand, deed in itertools.product(range(2), repeat=2):
                grown = as_dict(with_deed(LAMP, ((1, 1), entries), hand, deed))
                self.same({vector: grown[vector] for vector in told}, told)
                for vector in grown:
                    if vector[hand] == 2:
                        before = tuple(many - (place == hand) for place, many in enumerate(vector))
                        self.assertEqual(grown[vector], lead(LAMP, told[before], [deed]))
                self.same(with_back(with_deed(LAMP, ((1, 1), entries), hand, deed), hand), ((1, 1), entries))

    def test_lists_are_taken_and_left(self):
        self.untouched(first_table, MACHINE, 4)
        self.untouched(with_deed, MACHINE, TABLE, 1, 0)
        self.untouched(with_back, TABLE, 1)

    def test_errors(self):
        self.fails(BadMachine, -1, first_table, None, 0)
        self.fails(BadMachine, -1, with_deed, None, None, None, None)
        for value in (None, True, 0, 5, "1", (), -1):
            self.fails(Refused, value, first_table, MACHINE, value)
        for value in NO_HANDS:
            self.fails(NoHand, value, with_deed, MACHINE, TABLE, value, None)
            self.fails(NoHand, value, with_back, TABLE, value)
        for value in (None, True, -1, 2, "0", (), [0], NoDeed(0)):
            self.fails(NoDeed, value, with_deed, MACHINE, TABLE, 0, value)
        self.fails(Refused, 1, with_back, ((1, 0), (0, 0)), 1)


class Alike(unittest.TestCase, Trying):
    """Point [18]."""

    def test_against_all_presses(self):
        for machine in (SMALL[1], LAMP, SMALL[6]):
            some = [history for counts in ((0, 0), (1, 0), (0, 1), (1, 1)) for history in histories_with(machine, counts)]
            for one, other in itertools.product(some, repeat=2):
                self.same(alike(machine, 2, one, other), self.tried(machine, one, other))

    def tried(self, machine, one, other):
        # As many presses as deeds stand are enough ([14]); one more is tried.
        for row in all_rows(presses_of(machine, 2), 3):
            left, right = one, other
            for press in (None,) + row:
                left, right = self.behind(left, press), self.behind(right, press)
                if left is None or right is None:
                    break
                if sorted(hand for hand, _ in left) != sorted(hand for hand, _ in right):
                    return False
                if lead(machine, machine[0], [d for _, d in left]) != lead(machine, machine[0], [d for _, d in right]):
                    return False
        return True

    def behind(self, history, press):
        if press is None:
            return history
        if press[0] == "deed":
            return history + (press[1:],)
        mine = [at for at, letter in enumerate(history) if letter[0] == press[1]]
        return history[:mine[-1]] + history[mine[-1] + 1:] if mine else None

    def test_one_table(self):
        for machine in random_machines(6, 3, 2, seed=31):
            told = histories_with(machine, (2, 1))[::3]
            for one, other in itertools.product(told, repeat=2):
                same = tried_table(machine, 2, one) == tried_table(machine, 2, other)
                self.same(alike(machine, 2, one, other), same)
        self.untouched(alike, LAMP, 2, ((0, 0), (1, 1)), ((1, 1), (0, 0)))

    def test_errors(self):
        self.fails(BadMachine, -1, alike, None, 0, None, None)
        self.fails(Refused, 9, alike, LAMP, 9, None, None)
        self.fails(BadHistory, 0, alike, LAMP, 2, [()], None)
        self.fails(BadHistory, -1, alike, LAMP, 2, (), None)

    def test_limits(self):
        machine = (0, tuple(tuple((board * deed + 1) % 8 for board in range(8)) for deed in range(6)))
        begun = time.monotonic()
        for counts in ((1999,), (43, 44), (11, 12, 11), (5, 6, 6, 5)):
            table = greatest_table(counts, machine) if len(counts) > 2 else (counts, (0,) * len(vectors(counts)))
            self.same(check_table(machine, table), table)
            self.same(entry(table, counts), top_board(table))
            self.same(part_of(table, counts), table)
            self.same(with_back(with_deed(machine, table, 0, 3), 0), table)
            self.same(place_of(counts, counts), len(table[1]) - 1)
        history = tuple((at % 4, at % 6) for at in range(12))
        self.same(table_of(machine, 4, history), tried_table(machine, 4, history))
        self.assertLess(time.monotonic() - begun, 5)
