import itertools
import unittest

from ownback.errors import BadMachine, NoBoard, NoDeed, Refused
from ownback.lots import commute_at, doing, done_pairs, kinds_on, least_on, led_lot, like_on, unlike_at
from tests.trying import ODD, SMALL, Trying, random_machines

MACHINE = (0, ((0, 0, 2), (1, 0, 2), (0, 1, 2)))
MACHINES = SMALL + tuple(random_machines(20, 4, 4, seed=7))
BAD_LOTS = [value for value in ODD if value not in ((), [])] + [
    (1, 0), (0, 0), [0, 1, 1], (3,), (-1,), (True,), (0, None), (0, [1]), "01", (0, 1, 3),
]
BAD_PAIRS = [value for value in ODD if value not in ((), [])] + [
    (0, 1), ((0,),), ((0, 1, 2),), ((0, 3),), ((3, 0),), ((0, True),), (("0", 0),), [[0, 0], 1], ["00"], [(0, -1)],
]
NO_DEEDS = (None, True, -1, 3, "0", (), [0], 10 ** 30, NoDeed(0))
NO_BOARDS = (None, True, -1, 3, "0", (), [0], 10 ** 30, NoBoard(0))


def lots_of(machine):
    boards = range(len(machine[1][0]))
    return [lot for many in range(len(boards) + 1) for lot in itertools.combinations(boards, many)]


class Lots(unittest.TestCase, Trying):
    """Point [9]."""

    def test_against_the_maps(self):
        for machine in MACHINES:
            maps, deeds = machine[1], range(len(machine[1]))
            for lot in lots_of(machine):
                for deed in deeds:
                    like = tuple(d for d in deeds if all(maps[d][board] == maps[deed][board] for board in lot))
                    self.same(led_lot(machine, lot, deed), tuple(sorted({maps[deed][board] for board in lot})))
                    self.same(like_on(machine, lot, deed), like)
                    self.same(least_on(machine, lot, deed), like[0])
                    self.same(done_pairs(machine, lot, deed), tuple((board, maps[deed][board]) for board in lot))
                    self.same(doing(machine, done_pairs(machine, lot, deed)), like)
                parts = sorted({like_on(machine, lot, deed) for deed in deeds})
                self.same(kinds_on(machine, lot), tuple(parts))

    def test_empty_lots_and_pairs(self):
        self.same(led_lot(MACHINE, (), 1), ())
        self.same(like_on(MACHINE, [], 1), (0, 1, 2))
        self.same(kinds_on(MACHINE, []), ((0, 1, 2),))
        self.same(doing(MACHINE, []), (0, 1, 2))
        self.same(done_pairs(MACHINE, (), 2), ())

    def test_pairs_in_any_order(self):
        for machine in MACHINES[:12]:
            boards = range(len(machine[1][0]))
            for pairs in itertools.product(itertools.product(boards, repeat=2), repeat=2):
                expected = tuple(d for d, moves in enumerate(machine[1]) if all(moves[a] == b for a, b in pairs))
                self.same(doing(machine, pairs), expected)

    def test_unlike_and_commuting(self):
        for machine in MACHINES:
            for one, other in itertools.product(range(len(machine[1])), repeat=2):
                f, g = machine[1][one], machine[1][other]
                self.same(unlike_at(machine, one, other), tuple(b for b in range(len(f)) if f[b] != g[b]))
                for board in range(len(f)):
                    self.same(commute_at(machine, board, one, other), g[f[board]] == f[g[board]])

    def test_lists_are_taken_and_left(self):
        self.untouched(led_lot, MACHINE, (0, 2), 1)
        self.untouched(like_on, MACHINE, (0, 2), 1)
        self.untouched(least_on, MACHINE, (0, 2), 1)
        self.untouched(kinds_on, MACHINE, (0, 2))
        self.untouched(doing, MACHINE, ((2, 2), (0, 1)))
        self.untouched(done_pairs, MACHINE, (0, 2), 1)
        self.untouched(unlike_at, MACHINE, 0, 1)
        self.untouched(commute_at, MACHINE, 0, 0, 1)

    def test_machine_first(self):
        for call in (led_lot, like_on, least_on, done_pairs, unlike_at):
            self.fails(BadMachine, -1, call, None, None, None)
        for call in (kinds_on, doing):
            self.fails(BadMachine, 1, call, (0, ()), None)
        self.fails(BadMachine, 0, commute_at, (1, ((0,),)), None, None, None)

    def test_wrong_lots(self):
        for value in BAD_LOTS:
            for call in (led_lot, like_on, least_on, done_pairs):
                self.fails(Refused, value, call, MACHINE, value, None)
            self.fails(Refused, value, kinds_on, MACHINE, value)

    def test_wrong_pairs(self):
        for value in BAD_PAIRS:
            self.fails(Refused, value, doing, MACHINE, value)

    def test_wrong_deeds_and_boards(self):
        for value in NO_DEEDS:
            for call in (led_lot, like_on, least_on, done_pairs):
                self.fails(NoDeed, value, call, MACHINE, (), value)
            self.fails(NoDeed, value, unlike_at, MACHINE, value, "other")
            self.fails(NoDeed, value, unlike_at, MACHINE, 0, value)
            self.fails(NoDeed, value, commute_at, MACHINE, 0, value, "other")
            self.fails(NoDeed, value, commute_at, MACHINE, 0, 0, value)
        for value in NO_BOARDS:
            self.fails(NoBoard, value, commute_at, MACHINE, value, None, None)

    def test_limits(self):
        machine = (0, tuple(tuple((board + deed) % 8 for board in range(8)) for deed in range(6)))
        self.same(doing(machine, ((0, 5), (1, 6)) * 20), (5,))
        self.same(kinds_on(machine, tuple(range(8))), tuple((deed,) for deed in range(6)))
