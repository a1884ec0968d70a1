import itertools
import random
import time
import unittest

from ownback.counts import count, count_matrix, count_table, recurrence, shortest_recurrence, totals
from ownback.errors import BadMachine, NoHand, Refused, TooGreat
from ownback.finite import finite_machine, situations
from ownback.tables import vectors
from tests.trying import LAMP, ODD, SMALL, Trying, by_table, random_machines

LIGHT = (0, ((1, 0), (0, 1)))
MACHINES = SMALL + tuple(random_machines(8, 3, 2, seed=61))
BAD_COUNTS = ((), (0,) * 5, (-1,), (True,), (1, None), "11", (1, "1"), ((1,), 1), [[]], (1, -2))


def times(one, other):
    return [[sum(a * b for a, b in zip(row, column)) for column in zip(*other)] for row in one]


def by_matrices(matrices, counts):
    """The sum over all rows of letters of the first row of the product of their matrices."""
    size = len(matrices[0])
    unit = [[int(row == column) for column in range(size)] for row in range(size)]
    letters = [hand for hand, many in enumerate(counts) for _ in range(many)]
    total = 0
    for row in set(itertools.permutations(letters)):
        product = unit
        for hand in row:
            product = times(product, matrices[hand])
        total += sum(product[0])
    return total


def counts_with(hands, many):
    return [counts for counts in itertools.product(range(many + 1), repeat=hands) if sum(counts) == many]


def found_by(call, *given, most):
    """What is returned, None where there is too much."""
    try:
        return call(*given, most=most)
    except TooGreat:
        return None


class Counted(unittest.TestCase, Trying):
    """Points [40] and [41]."""

    def test_against_all_histories(self):
        for machine in MACHINES:
            for counts in ((0,), (4,), (2, 2), (1, 3), (0, 3), (1, 1, 1), (2, 0, 2), (0, 3, 1), (0, 2, 2), (1, 0, 1, 1)):
                self.same(count(machine, counts, most=2000), len(by_table(machine, counts)))

    def test_table(self):
        for machine in MACHINES:
            for counts in ((3,), (2, 2), (1, 1, 2), (0, 1, 1, 1)):
                told = tuple(len(by_table(machine, vector)) for vector in vectors(counts))
                self.same(count_table(machine, counts, most=2000), told)
        self.same(count_table(LAMP, (0, 0), most=1), (1,))

    def test_matrices(self):
        for machine in MACHINES:
            for hands in (1, 2):
                many, _, steps = finite_machine(machine, hands, most=999)
                matrices = count_matrix(machine, hands, most=999)
                self.same(matrices, tuple(tuple(tuple(
                    sum(letter[0] == hand and behind == column for letter, behind in row) for column in range(many))
                    for row in steps) for hand in range(hands)))
                for counts in counts_with(hands, 4):
                    self.assertEqual(by_matrices(matrices, counts), count(machine, counts, most=999))

    def test_only_situations_up_to_the_counts_are_searched(self):
        for machine in MACHINES:
            for counts in ((1, 1), (2, 1), (3,), (1, 1, 1)):
                told = count(machine, counts, most=5000)
                # There are no more situations than normal histories.
                histories = sum(count_table(machine, counts, most=5000))
                self.same(count(machine, counts, most=histories), told)
                for most in (1, 2, 3, 5, 8, 13):
                    self.assertIn(found_by(count, machine, counts, most=most), (told, None))
        self.same(count(LAMP, (0, 0, 0), most=1), 1)
        many = situations(LIGHT, 2, most=999)[0]
        self.fails(TooGreat, many - 1, count, LIGHT, (9, 9), most=many - 1)
        self.same(count(LIGHT, (9, 9), most=many), 2 ** 18)

    def test_any_value_as_counts(self):
        numbers = [value for value in ODD if isinstance(value, (list, tuple)) and 0 < len(value) < 5
                   and all(type(item) is int and item >= 0 for item in value)]
        for call in (count, count_table):
            for value in [value for value in ODD if value not in numbers] + list(BAD_COUNTS):
                self.fails(Refused, value, call, LAMP, value, most=9)
            self.fails(BadMachine, -1, call, None, None, most=9)
            self.fails(BadMachine, 0, call, (2, ((0, 1),)), (), most=9)
            self.untouched(call, LAMP, (1, 2), most=99)

    def test_errors_of_matrices(self):
        self.fails(BadMachine, 1, count_matrix, (0, ()), 9, most=9)
        for value in (None, 0, 5, True, "1", [1], NoHand(0)):
            self.fails(Refused, value, count_matrix, LAMP, value, most=9)
        many = situations(LAMP, 2, most=999)[0]
        self.fails(TooGreat, many - 1, count_matrix, LAMP, 2, most=many - 1)
        self.untouched(count_matrix, LAMP, 2, most=many)


class Totals(unittest.TestCase, Trying):
    """Point [42]."""

    def test_sums_of_counts(self):
        for machine in MACHINES:
            for hands in (1, 2):
                told = tuple(sum(count(machine, counts, most=999) for counts in counts_with(hands, many))
                             for many in range(6))
                self.same(totals(machine, hands, 5, most=999), told)
        for machine in SMALL[:6]:
            told = tuple(sum(count(machine, counts, most=999) for counts in counts_with(3, many)) for many in range(5))
            self.same(totals(machine, 3, 4, most=999), told)
        self.same(totals(LAMP, 4, 0, most=9999), (1,))

    def test_errors(self):
        self.fails(BadMachine, -1, totals, "", None, None, most=9)
        self.fails(Refused, False, totals, LAMP, False, None, most=9)
        for value in [value for value in ODD if type(value) is not int or value < 0] + [1.5]:
            self.fails(Refused, value, totals, LAMP, 2, value, most=1)
        many = situations(LAMP, 2, most=999)[0]
        self.fails(TooGreat, many - 1, totals, LAMP, 2, 1, most=many - 1)
        self.untouched(totals, LAMP, 2, 7, most=many)


def recurs(row, numbers):
    return all(numbers[at] == sum(row[back] * numbers[at - 1 - back] for back in range(len(row)))
               for at in range(len(row), len(numbers)))


def rank(rows):
    """The rank of a matrix of integers."""
    rows, found = [list(row) for row in rows], 0
    while rows:
        lead = next((at for at, row in enumerate(rows) if any(row)), None)
        if lead is None:
            return found
        first = rows.pop(lead)
        column = next(at for at, number in enumerate(first) if number)
        rows = [[first[column] * a - row[column] * b for a, b in zip(row, first)] for row in rows]
        found += 1
    return found


class Recurrence(unittest.TestCase, Trying):
    """Point [43]."""

    def test_it_is_true_and_the_shortest(self):
        for machine in MACHINES + tuple(random_machines(20, 3, 2, seed=62)):
            for hands in (1, 2):
                states = finite_machine(machine, hands, most=999)[0]
                row = recurrence(machine, hands, most=999)
                numbers = totals(machine, hands, 2 * states + 20, most=999)
                self.same(row, tuple(row))
                self.assertTrue(all(type(number) is int for number in row))
                self.assertTrue(1 <= len(row) <= states)
                self.assertTrue(recurs(row, numbers))
                # A row of fewer numbers would make these so many rows of totals hang on fewer.
                size = len(row)
                windows = [numbers[at:at + size] for at in range(len(numbers) - size)]
                if row[-1] != 0:
                    self.assertEqual(rank(windows), size)
                self.assertFalse(self.has_shorter(size - 1, numbers))

    def has_shorter(self, size, numbers):
        """Whether some row of so many numbers, fractions or not, is true of all of these."""
        windows = [numbers[at:at + size] for at in range(len(numbers) - size)]
        longer = [numbers[at:at + size + 1] for at in range(len(numbers) - size)]
        return rank(windows) == rank(longer)

    def test_long_ones(self):
        lengths = []
        for maps in (((1, 2, 1), (2, 0, 1)), ((1, 1, 2), (2, 1, 0)), ((0, 2, 2), (1, 0, 2)), ((1, 2, 0), (0, 0, 1))):
            machine = (0, maps)
            states = finite_machine(machine, 2, most=999)[0]
            row = recurrence(machine, 2, most=999)
            numbers = totals(machine, 2, 2 * states + 40, most=999)
            self.assertTrue(recurs(row, numbers))
            self.assertFalse(self.has_shorter(len(row) - 1, numbers))
            lengths.append((states, len(row)))
        self.assertGreater(max(lengths)[0], 30)
        self.assertGreater(max(many for _, many in lengths), 5)

    def test_nearly_as_long_as_there_are_states(self):
        nearly = 0
        for machine in random_machines(60, 7, 3, seed=63):
            states = finite_machine(machine, 1, most=999)[0]
            row = recurrence(machine, 1, most=999)
            nearly += 2 * len(row) > states + 3
            numbers = totals(machine, 1, 40, most=999)
            self.assertTrue(recurs(row, numbers))
            self.assertFalse(self.has_shorter(len(row) - 1, numbers))
        self.assertGreater(nearly, 5)

    def test_of_any_integers(self):
        chance = random.Random(64)
        for _ in range(400):
            size = chance.randint(1, 6)
            row = [chance.choice((0, 0, 1, -1, 2)) for _ in range(size)]
            numbers = [chance.choice((0, 0, 1, 3)) for _ in range(size)]
            while len(numbers) < 30:
                numbers.append(sum(row[back] * numbers[-1 - back] for back in range(size)))
            found = shortest_recurrence(numbers)
            self.assertTrue(recurs(found, numbers))
            if found:
                self.assertFalse(self.has_shorter(len(found) - 1, numbers))

    def test_told_ones(self):
        self.same(recurrence((0, ((0,),)), 1, most=9), (1,))
        self.same(recurrence((0, ((0,),)), 3, most=99), (3, -3, 1))
        self.same(recurrence(LIGHT, 2, most=99), (4, -4))
        self.same(totals((0, ((1, 1), (0, 0))), 1, 5, most=9), (1, 2, 4, 8, 16, 32))
        self.same(recurrence((0, ((1, 1), (0, 0))), 1, most=9), (2,))
        # Only from the second total on: so the last number is 0.
        self.same(totals((0, ((1, 2, 2), (2, 2, 2))), 1, 4, most=9), (1, 2, 2, 2, 2))
        self.same(recurrence((0, ((1, 2, 2), (2, 2, 2))), 1, most=9), (1, 0))

    def test_errors(self):
        self.fails(BadMachine, 1, recurrence, (0, 0), 9, most=9)
        for value in (None, 0, 5, True, "1", [1], NoHand(0)):
            self.fails(Refused, value, recurrence, LAMP, value, most=9)
        many = situations(LAMP, 2, most=999)[0]
        self.fails(TooGreat, many - 1, recurrence, LAMP, 2, most=many - 1)
        self.untouched(recurrence, LAMP, 2, most=many)


class Limits(unittest.TestCase, Trying):

    def test_limits(self):
        chance = random.Random(16)
        begun = time.monotonic()
        for boards, deeds, hands in ((2, 2, 3), (3, 2, 2), (4, 1, 3)) * 6:
            machine = (0, tuple(tuple(chance.randrange(boards) for _ in range(boards)) for _ in range(deeds)))
            numbers = totals(machine, hands, 200, most=5000)
            row = recurrence(machine, hands, most=5000)
            self.assertTrue(recurs(row, numbers))
            self.assertEqual(len(count_matrix(machine, hands, most=5000)), hands)
        for counts in ((2, 2, 2), (3, 2, 1), (6, 0, 0), (6, 6), (12,), (12, 0), (3, 9)) * 4:
            machine = (0, tuple(tuple(chance.randrange(3) for _ in range(3)) for _ in range(2)))
            table = found_by(count_table, machine, counts, most=2000)
            if table is not None:
                self.assertEqual(table[-1], count(machine, counts, most=2000))
                self.assertEqual(table[0], 1)
        self.assertLess(time.monotonic() - begun, 20)
