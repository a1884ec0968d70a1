import itertools
import time
import unittest

from ownback.errors import BadMachine, BadOctets, Broken, NoBoard, NoDeed, OwnError, Refused
from ownback.machines import (
    board_count, boards_come, check_machine, come_by, deed_count, led, machine_at, machine_octets, names_come,
    same_but_names, trimmed,
)
from tests.trying import ODD, SMALL, Trying, all_rows, as_lists, lead, random_machines

BAD_MACHINES = [(value, -1) for value in ODD if not isinstance(value, (list, tuple)) or len(value) != 2] + [
    ((), -1), ((0,), -1), ((0, ((0,),), 0), -1), ("ab", -1),
    ((0, None), 1), ((0, 0), 1), ((0, ()), 1), ((0, []), 1), ((0, "0"), 1), ((0, ((),)), 1), ((0, (0,)), 1),
    ((0, ((0,),) * 7), 1), ((0, ((0,) * 9,)), 1), ((0, ((0, 0), (0,))), 1), ((0, ((0,), (0, 0))), 1),
    ((0, ((1,),)), 1), ((0, ((0, 2),)), 1), ((0, ((0, -1),)), 1), ((0, ((0, True),)), 1), ((0, ((0, None),)), 1),
    ((0, ((0,), None)), 1), ((0, ("0",)), 1), ((9, ((1,),)), 1), ((None, ()), 1), ((0, ((0,), Refused(0))), 1),
    ((1, ((0,),)), 0), ((-1, ((0,),)), 0), ((False, ((0,),)), 0), ((None, ((0,),)), 0), (("0", [[0]]), 0),
    (([0], ((0, 0),)), 0), ((2, ((0, 0),)), 0), ((OwnError(), ((0,),)), 0),
]
ONE_ARGUMENT = (check_machine, board_count, deed_count, boards_come, names_come, trimmed, machine_octets)
NO_BOARDS = (None, True, False, -1, 4, "0", (), (0,), 10 ** 30, NoBoard(0))
NO_DEEDS = (None, True, False, -1, 2, "0", (), (0,), 10 ** 30, NoDeed(0))
FOUR = (1, ((0, 0, 2, 3), (1, 2, 0, 0)))


def tried_rows(machine):
    """By board that can come the first row that leads there: all rows, in their order."""
    rows = {}
    for row in all_rows(range(len(machine[1])), len(machine[1][0]) - 1):
        rows.setdefault(lead(machine, machine[0], row), row)
    return rows


class Machines(unittest.TestCase, Trying):
    """Point [7]: machines, errors, rows of deeds."""

    def test_machines(self):
        for machine in SMALL + ((7, ((0,) * 8,) * 6),):
            self.same(check_machine(machine), machine)
            self.same(check_machine(as_lists(machine)), machine)
            self.same((board_count(machine), deed_count(machine)), (len(machine[1][0]), len(machine[1])))
            for call in ONE_ARGUMENT:
                self.untouched(call, machine)

    def test_any_value_that_is_none(self):
        for value, at in BAD_MACHINES:
            for call in ONE_ARGUMENT:
                self.fails(BadMachine, at, call, value)
            self.fails(BadMachine, at, led, value, None, None)
            self.fails(BadMachine, at, come_by, value, None)
            self.fails(BadMachine, at, same_but_names, value, 0)
            self.fails(BadMachine, at, same_but_names, FOUR, value)

    def test_what_a_machine_gives_is_no_longer_its_argument(self):
        machine = [0, [[1, 0]]]
        told = check_machine(machine)
        machine[1][0][0] = 0
        self.same(told, (0, ((1, 0),)))

    def test_led(self):
        for machine in SMALL:
            for board in range(len(machine[1][0])):
                for row in all_rows(range(len(machine[1])), 3):
                    self.same(led(machine, board, row), lead(machine, board, row))
        self.untouched(led, FOUR, 1, (0, 1, 1))
        self.same(led(FOUR, 3, (0,) * 40), 3)
        self.same(led(machine=FOUR, board=1, deeds=[]), 1)

    def test_wrong_boards_and_rows(self):
        for value in NO_BOARDS:
            self.fails(NoBoard, value, led, FOUR, value, None)
            self.fails(NoBoard, value, come_by, FOUR, value)
        for value in (None, True, 0, "", "01", Refused(0)):
            self.fails(Refused, value, led, FOUR, 0, value)
        for value in NO_DEEDS:
            self.fails(NoDeed, value, led, FOUR, 0, (0, 1, value, None))


class Octets(unittest.TestCase, Trying):
    """Point [7]: the form of a machine."""

    def test_written_and_read(self):
        for machine in SMALL + tuple(random_machines(40, 8, 6)):
            octets = machine_octets(machine)
            flat = tuple(itertools.chain(*machine[1]))
            self.same(octets, (len(machine[1][0]), machine[0], len(machine[1])) + flat)
            self.same(machine_at(octets, 0), (machine, len(octets)))
            self.same(machine_at([255, 9] + list(octets) + [7], 2), (machine, len(octets) + 2))
            for left in range(len(octets)):
                self.fails(Broken, left, machine_at, octets[:left], 0)
                self.fails(Broken, left + 1, machine_at, (8,) + octets[:left], 1)

    def test_each_octet_that_cannot_stand(self):
        octets = machine_octets(FOUR)
        bounds = [(1, 8), (0, 3), (1, 6)] + [(0, 3)] * 8
        for place, (low, high) in enumerate(bounds):
            for octet in (0, 1, 4, 6, 7, 8, 9, 255):
                if not low <= octet <= high:
                    self.fails(Broken, place, machine_at, octets[:place] + (octet,) + octets[place + 1:], 0)
                    self.fails(Broken, place, machine_at, octets[:place] + (octet,), 0)
                    self.fails(Broken, place + 3, machine_at, (0, 0, 0) + octets[:place] + (octet, 255), 3)

    def test_greatest(self):
        machine = (7, tuple(tuple((board + deed) % 8 for board in range(8)) for deed in range(6)))
        self.same(machine_at(machine_octets(machine), 0), (machine, 51))

    def test_errors(self):
        self.fails(BadOctets, -1, machine_at, None, None)
        self.fails(BadOctets, 1, machine_at, (1, 256, 1, 0), None)
        for value in (None, True, -1, "0", (), Refused(0)):
            self.fails(Refused, value, machine_at, (), value)
        self.fails(Broken, 4, machine_at, (1, 0, 1, 0), 4)
        self.fails(Broken, 4, machine_at, (1, 0, 1, 0), 10 ** 30)
        self.fails(Broken, 0, machine_at, [], 0)


class Coming(unittest.TestCase, Trying):
    """Point [8]."""

    def test_against_all_rows(self):
        for machine in SMALL + tuple(random_machines(40, 5, 3, seed=2)):
            rows = tried_rows(machine)
            self.same(boards_come(machine), tuple(sorted(rows)))
            self.same(names_come(machine), tuple(sorted(rows, key=lambda board: (len(rows[board]), rows[board]))))
            for board in range(len(machine[1][0])):
                self.same(come_by(machine, board), rows.get(board))

    def test_trimmed(self):
        for machine in random_machines(40, 5, 3, seed=3):
            names = names_come(machine)
            small = trimmed(machine)
            self.assertEqual(small[0], 0)
            for deed, moves in enumerate(small[1]):
                self.same(tuple(names[board] for board in moves), tuple(machine[1][deed][board] for board in names))
            self.same(trimmed(small), small)
            self.assertTrue(same_but_names(machine, small))

    def test_same_but_names_against_all_names(self):
        machines = random_machines(25, 3, 2, seed=4) + list(SMALL)
        for one, other in itertools.product(machines, repeat=2):
            self.same(same_but_names(one, other), self.tried_names(one, other))
        self.untouched(same_but_names, FOUR, SMALL[0])

    def tried_names(self, one, other):
        left, right = boards_come(one), boards_come(other)
        if len(left) != len(right) or len(one[1]) != len(other[1]):
            return False
        for row in itertools.permutations(right):
            names = dict(zip(left, row))
            kept = all(names[one[1][deed][board]] == other[1][deed][names[board]]
                       for deed in range(len(one[1])) for board in left)
            if names[one[0]] == other[0] and kept:
                return True
        return False

    def test_limits(self):
        machine = (7, tuple(tuple((board * (deed + 1) + 1) % 8 for board in range(8)) for deed in range(6)))
        begun = time.monotonic()
        self.assertEqual(boards_come(machine), tuple(range(8)))
        self.assertEqual(len(trimmed(machine)[1]), 6)
        self.assertLess(time.monotonic() - begun, 2)
