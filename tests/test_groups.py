import itertools
import random
import time
import unittest

from ownback.errors import BadMachine, NoDeed, Refused
from ownback.groups import (
    acts_freely, blurs, commuting_boards, commuting_rows, deeds_alike, deeds_commute, free_paper, least_deed,
    least_deeds, same_boards, unlike_deeds,
)
from tests.trying import LAMP, ODD, SMALL, Trying, all_rows, as_lists, lead, random_machines

FAR = (0, ((0, 0, 2), (0, 1, 1)))
LAMP_OUT = (0, ((1, 0), (0, 0)))
SIX = (0, ((1, 2, 0, 4, 5, 3), (3, 5, 4, 0, 2, 1)))


def permuting_machines(many, seed):
    chance = random.Random(seed)
    return [(chance.randrange(size), tuple(tuple(chance.sample(range(size), size)) for _ in range(chance.randint(1, 3))))
            for size in (2, 3, 4, 5, 6) for _ in range(many)]


MACHINES = SMALL + (FAR, LAMP_OUT, SIX) + tuple(random_machines(40, 4, 4, seed=121)) + tuple(permuting_machines(8, 122))


def come(machine):
    """The boards that can come, by rows of deeds."""
    deeds, boards = range(len(machine[1])), {machine[0]}
    for _ in machine[1][0]:
        boards |= {lead(machine, board, [deed]) for board in boards for deed in deeds}
    return sorted(boards)


def maps_made(machine):
    """By map that rows of deeds make of the boards that can come the first row that makes it."""
    boards = tuple(come(machine))
    found, reached = {boards: ()}, [boards]
    for made in reached:
        for deed in range(len(machine[1])):
            behind = tuple(lead(machine, board, [deed]) for board in made)
            if behind not in found:
                found[behind] = found[made] + (deed,)
                reached.append(behind)
    return found


def tried_freely(machine):
    """By its own words, with all maps that rows of deeds make."""
    boards = come(machine)
    for deed in range(len(machine[1])):
        if len({lead(machine, board, [deed]) for board in boards}) < len(boards):
            return False
    for made in maps_made(machine):
        still = [board == led for board, led in zip(boards, made)]
        if any(still) and not all(still):
            return False
    return True


def same_at(machine, board, one, other):
    return lead(machine, board, [one]) == lead(machine, board, [other])


def commute(machine, board, one, other):
    return lead(machine, board, [one, other]) == lead(machine, board, [other, one])


def pairs_of(machine):
    return itertools.product(range(len(machine[1])), repeat=2)


class Alike(unittest.TestCase, Trying):
    """Point [63]."""

    def test_against_all_boards_that_come(self):
        for machine in MACHINES:
            boards = come(machine)
            for one, other in pairs_of(machine):
                same = tuple(board for board in boards if same_at(machine, board, one, other))
                both = tuple(board for board in boards if commute(machine, board, one, other))
                self.same(same_boards(machine, one, other), same)
                self.same(commuting_boards(machine, one, other), both)
                self.same(deeds_alike(machine, one, other), len(same) == len(boards))
                self.same(deeds_commute(machine, one, other), len(both) == len(boards))

    def test_least_deeds(self):
        for machine in MACHINES:
            boards, deeds = come(machine), range(len(machine[1]))
            least = tuple(min(other for other in deeds if all(same_at(machine, board, deed, other) for board in boards))
                          for deed in deeds)
            self.same(least_deeds(machine), least)
            self.same(tuple(least_deed(machine, deed) for deed in deeds), least)
            self.same(unlike_deeds(machine), tuple(sorted(set(least))))
            rows = tuple(tuple(all(commute(machine, board, one, other) for board in boards) for other in deeds)
                         for one in deeds)
            self.same(commuting_rows(machine), rows)

    def test_boards_that_cannot_come_do_not_count(self):
        self.same((same_boards(FAR, 0, 1), commuting_boards(FAR, 0, 1)), ((0,), (0,)))
        self.same((deeds_alike(FAR, 0, 1), deeds_commute(FAR, 0, 1), blurs(FAR, 4)), (True, True, ()))
        self.same((least_deeds(FAR), unlike_deeds(FAR)), ((0, 0), (0,)))

    def test_blurs(self):
        for machine in MACHINES:
            boards, kinds = come(machine), {"alike": same_at, "commuting": commute}
            for hands in (1, 2, 4):
                found = []
                for kind in ("alike", "commuting")[:hands]:
                    for one, other in itertools.combinations(range(len(machine[1])), 2):
                        so = [board for board in boards if kinds[kind](machine, board, one, other)]
                        if so != boards:
                            found += [(kind, one, other, board) for board in so]
                self.same(blurs(machine, hands), tuple(found))

    def test_errors(self):
        for call in (same_boards, commuting_boards, deeds_alike, deeds_commute):
            self.fails(BadMachine, -1, call, 9, 9, 9)
            for value in [value for value in ODD if type(value) is not int] + [2, -1, 10 ** 30]:
                self.fails(NoDeed, value, call, LAMP, value, 9)
                self.fails(NoDeed, value, call, LAMP, 1, value)
        for value in [value for value in ODD if type(value) is not int] + [2, -1]:
            self.fails(NoDeed, value, least_deed, LAMP, value)
        for call in (least_deeds, unlike_deeds, commuting_rows, free_paper, acts_freely):
            self.fails(BadMachine, 1, call, (0, ()))
            self.fails(BadMachine, 0, call, (2, ((0, 1),)))
        self.fails(BadMachine, -1, least_deed, None, 9)
        self.fails(BadMachine, -1, blurs, None, 9)
        for value in [value for value in ODD if type(value) is not int] + [0, 5, -1]:
            self.fails(Refused, value, blurs, LAMP, value)

    def test_lists_are_taken_and_left(self):
        for call in (same_boards, commuting_boards, deeds_alike, deeds_commute):
            self.untouched(call, LAMP_OUT, 0, 1)
        for call in (least_deeds, unlike_deeds, commuting_rows, free_paper, acts_freely):
            self.untouched(call, LAMP_OUT)
        self.untouched(blurs, LAMP_OUT, 2)
        self.same(blurs(as_lists(LAMP_OUT), hands=2), (("alike", 0, 1, 1),))


class Freely(unittest.TestCase, Trying):
    """Point [64]."""

    def test_against_all_maps(self):
        for machine in MACHINES:
            self.same(acts_freely(machine), tried_freely(machine))
            self.same(free_paper(machine) is None, tried_freely(machine))

    def test_papers(self):
        kinds = set()
        for machine in MACHINES:
            paper = free_paper(machine)
            if paper is not None:
                kinds.add(paper[0])
                self.assertIs(paper.__class__, tuple)
                self.holds(machine, paper)
        self.assertEqual(kinds, {"joined", "moved"})

    def holds(self, machine, paper):
        boards = come(machine)
        if paper[0] == "joined":
            kind, deed, board, other = paper
            self.assertTrue(board != other and {board, other} <= set(boards))
            self.assertEqual(lead(machine, board, [deed]), lead(machine, other, [deed]))
            return
        kind, row, board = paper
        self.assertEqual(kind, "moved")
        self.assertIs(row.__class__, tuple)
        for deed in range(len(machine[1])):
            self.assertEqual(len({lead(machine, led, [deed]) for led in boards}), len(boards))
        self.assertEqual(lead(machine, machine[0], row), machine[0])
        self.assertIn(board, boards)
        self.assertNotEqual(lead(machine, board, row), board)
        self.assertLessEqual(len(row), 15)
        if len(machine[1]) ** (len(row) - 1) < 5000:
            for fewer in all_rows(range(len(machine[1])), len(row) - 1):
                if lead(machine, machine[0], fewer) == machine[0]:
                    self.assertTrue(all(lead(machine, led, fewer) == led for led in boards))

    def test_nothing_is_blurred_where_they_act_freely(self):
        free = [machine for machine in MACHINES if acts_freely(machine)]
        self.assertGreater(len(free), 5)
        for machine in free:
            self.same(blurs(machine, 4), ())

    def test_by_hand(self):
        self.same(acts_freely(SIX), True)
        self.same(free_paper((0, ((1, 0, 2), (0, 2, 1))))[:2], ("moved", (1,)))
        self.same(free_paper((0, ((1, 2, 0), (1, 0, 2))))[:2], ("moved", (0, 1)))
        self.same(free_paper(LAMP_OUT), ("joined", 1, 0, 1))
        # Boards that are led to one, but cannot all come.
        self.same((acts_freely(FAR), acts_freely((0, ((0, 0),)))), (True, True))

    def test_limits(self):
        begun = time.monotonic()
        chance = random.Random(123)
        for _ in range(100):
            deeds = [tuple(chance.sample(range(8), 8)) for _ in range(chance.randint(1, 6))]
            self.assertIs(acts_freely((0, deeds)), free_paper((0, deeds)) is None)
            self.assertIs(blurs((0, deeds), 4).__class__, tuple)
        self.assertLess(time.monotonic() - begun, 10)
