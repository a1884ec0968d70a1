import itertools
import time
import unittest

from ownback.errors import BadMachine, NoBoard, Refused
from ownback.looks import alike_boards, check_looks, least_machine, look_alike, parting_deeds, parting_row
from ownback.machines import boards_come, come_by, names_come
from tests.trying import ODD, SMALL, Trying, all_rows, lead, random_machines

RING = (0, ((1, 2, 3, 0),))
LIGHT = (0, ((1, 0),))
BAD_LOOKS = [value for value in ODD] + [
    (0, 1, 2), (0, 0, 0, 0, 0), (0, 0, 0, -1), (0, 0, 0, True), (None, 0, 0, 0), "0000", (0, 0, 0, (0,)), [0, 0, 0, "0"],
]


def cases(many, boards, deeds, seed):
    found = []
    for machine in list(SMALL) + random_machines(many, boards, deeds, seed):
        size = len(machine[1][0])
        found.append((machine, tuple(board % 2 for board in range(size))))
        found.append((machine, (7,) * (size - 1) + (900,)))
    return found


def tried_parting(machine, looks, one, other, most):
    for row in all_rows(range(len(machine[1])), most):
        if looks[lead(machine, one, row)] != looks[lead(machine, other, row)]:
            return row
    return None


class Looks(unittest.TestCase, Trying):
    """Point [10]."""

    def test_looks(self):
        self.same(check_looks(RING, [0, 10 ** 30, 0, 1]), (0, 10 ** 30, 0, 1))
        self.untouched(check_looks, RING, (0, 1, 0, 1))

    def test_boards_against_all_rows(self):
        for machine, looks in cases(25, 4, 2, 11):
            boards = range(len(looks))
            most = len(looks)
            for one, other in itertools.product(boards, repeat=2):
                row = tried_parting(machine, looks, one, other, most)
                self.same(parting_deeds(machine, looks, one, other), row)
            least = tuple(min(other for other in boards if tried_parting(machine, looks, board, other, most) is None)
                          for board in boards)
            self.same(alike_boards(machine, looks), least)

    def test_least_machine(self):
        for machine, looks in cases(30, 5, 2, 12):
            small, seen, names = least_machine(machine, looks)
            alike = alike_boards(machine, looks)
            self.same(tuple(name is None for name in names),
                      tuple(board not in boards_come(machine) for board in range(len(looks))))
            for one, other in itertools.product(boards_come(machine), repeat=2):
                self.assertEqual(names[one] == names[other], alike[one] == alike[other])
            self.same(names[machine[0]], 0)
            self.same(small[0], 0)
            self.same(names_come(small), tuple(range(len(seen))))
            for board in boards_come(machine):
                self.assertEqual(seen[names[board]], looks[board])
                for deed, moves in enumerate(machine[1]):
                    self.assertEqual(small[1][deed][names[board]], names[moves[board]])
            self.assertTrue(look_alike(machine, looks, small, seen))
            self.assertEqual(alike_boards(small, seen), tuple(range(len(seen))))

    def test_numbers_go_by_the_first_rows_to_a_kind(self):
        for machine, looks in cases(30, 5, 2, 13):
            small, seen, names = least_machine(machine, looks)
            rows = [come_by(small, board) for board in range(len(seen))]
            self.assertEqual(rows, sorted(rows, key=lambda row: (len(row), row)))
            self.same(tuple(names[lead(machine, machine[0], row)] for row in rows), tuple(range(len(seen))))

    def test_a_board_that_cannot_come_may_be_the_least_alike(self):
        self.same(alike_boards((2, ((0, 2, 2),)), (5, 5, 5)), (0, 0, 0))
        self.same(least_machine((2, ((0, 2, 2),)), (5, 5, 5)), ((0, ((0,),)), (5,), (None, None, 0)))

    def test_two_machines(self):
        told = [case for case in cases(14, 3, 2, 14)]
        for (one, looks), (other, others) in itertools.product(told, repeat=2):
            if len(one[1]) != len(other[1]):
                self.fails(Refused, other, parting_row, one, looks, other, None)
                self.fails(Refused, other, look_alike, one, looks, other, None)
                continue
            row = self.tried_row(one, looks, other, others)
            self.same(parting_row(one, looks, other, others), row)
            self.same(look_alike(one, looks, other, others), row is None)
            same = least_machine(one, looks)[:2] == least_machine(other, others)[:2]
            self.assertEqual(same, row is None)
            if row is None:
                self.assertLessEqual(len(least_machine(one, looks)[1]), len(others))

    def tried_row(self, one, looks, other, others):
        for row in all_rows(range(len(one[1])), len(looks) + len(others) - 1):
            if looks[lead(one, one[0], row)] != others[lead(other, other[0], row)]:
                return row
        return None

    def test_lists_are_taken_and_left(self):
        self.untouched(alike_boards, RING, (0, 1, 0, 1))
        self.untouched(parting_deeds, RING, (0, 0, 0, 1), 0, 1)
        self.untouched(least_machine, RING, (0, 1, 0, 1))
        self.untouched(parting_row, RING, (0, 0, 0, 1), LIGHT, (0, 1))
        self.untouched(look_alike, RING, (0, 0, 0, 1), LIGHT, (0, 1))

    def test_wrong_looks(self):
        for value in BAD_LOOKS:
            self.fails(Refused, value, check_looks, RING, value)
            self.fails(Refused, value, alike_boards, RING, value)
            self.fails(Refused, value, parting_deeds, RING, value, None, None)
            self.fails(Refused, value, least_machine, RING, value)
            for call in (parting_row, look_alike):
                self.fails(Refused, value, call, RING, value, None, None)
                self.fails(Refused, value, call, LIGHT, (0, 1), RING, value)

    def test_order_of_errors(self):
        for call in (check_looks, alike_boards, least_machine):
            self.fails(BadMachine, -1, call, 3, None)
        self.fails(BadMachine, 1, parting_deeds, (0, [[1]]), None, None, None)
        self.fails(NoBoard, 4, parting_deeds, RING, (0,) * 4, 4, None)
        self.fails(NoBoard, True, parting_deeds, RING, (0,) * 4, 0, True)
        for call in (parting_row, look_alike):
            self.fails(BadMachine, 0, call, (9, ((0,),)), None, None, None)
            self.fails(BadMachine, -1, call, RING, (0,) * 4, "", None)
            self.fails(Refused, [0, [[0], [0]]], call, RING, (0,) * 4, [0, [[0], [0]]], None)
            self.fails(Refused, (0,), call, RING, (0,) * 4, LIGHT, (0,))

    def test_limits(self):
        deep = (0, (tuple(range(1, 8)) + (7,),) + ((0,) * 8,) * 5)
        looks = (999,) * 7 + (0,)
        begun = time.monotonic()
        self.same(alike_boards(deep, looks), tuple(range(8)))
        self.same(parting_deeds(deep, looks, 0, 1), (0,) * 6)
        self.same(parting_row(deep, looks, deep, (999,) * 8), (0,) * 7)
        self.assertLess(time.monotonic() - begun, 2)
