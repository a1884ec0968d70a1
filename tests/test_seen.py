import itertools
import random
import time
import unittest

from ownback.counts import count
from ownback.errors import BadHistory, BadMachine, NoDeed, NoHand, Refused, TooGreat
from ownback.looks import least_machine
from ownback.normal import normal_of
from ownback.seen import looks_shown, seen_alike, seen_count, seen_normal, seen_parting, seen_table
from tests.trying import (
    LAMP, ODD, SMALL, Trying, all_rows, behind_press, board_of, counts_in, first_deeds, histories_with, presses_of,
    random_machines, tried_table,
)

RING = (0, ((1, 2, 3, 0), (0, 1, 2, 3)))
LATE = (0, ((1, 2, 3, 4, 5, 5), (0, 0, 0, 0, 0, 0)))


def machines():
    chance = random.Random(201)
    for machine in SMALL + tuple(random_machines(10, 5, 3, seed=202)):
        boards = len(machine[1][0])
        for looks in {tuple(range(boards)), (7,) * boards, tuple(chance.randrange(2) for _ in range(boards))}:
            yield machine, looks
    yield RING, (0, 1, 0, 1)
    yield RING, (0, 0, 0, 1)
    yield LATE, (0, 0, 0, 0, 0, 1)


CASES = sorted(machines())
FEW = [case for case in CASES if len(case[1]) <= 3 and len(case[0][1]) <= 2][::2] + [(RING, (0, 1, 0, 1))]


def played(history, presses):
    """The history behind presses, None if one cannot be made."""
    for press in presses:
        history = None if history is None else behind_press(history, press)
    return history


def look_of(machine, looks, history):
    return looks[board_of(machine, history)]


def fewest_apart(machine, looks, hands, one, other, most):
    """How many presses, up to most, show unlike looks, None if none do: with nothing but trying."""
    pairs = {(one, other)}
    for many in range(most + 1):
        if any(look_of(machine, looks, left) != look_of(machine, looks, right) for left, right in pairs):
            return many
        pairs = {(behind_press(left, press), behind_press(right, press)) for left, right in pairs
                 for press in presses_of(machine, hands) if None not in (behind_press(left, press),
                                                                         behind_press(right, press))}
    return None


class Seen(unittest.TestCase, Trying):
    """Points [78] and [79]."""

    def test_looks_shown(self):
        chance = random.Random(203)
        for machine, looks in CASES:
            for hands in (1, 2, 3, 4):
                history = tuple((chance.randrange(hands), chance.randrange(len(machine[1]))) for _ in range(3))
                presses = [chance.choice(presses_of(machine, hands)) for _ in range(5)]
                made = [played(history, presses[:many]) for many in range(6)]
                if made[-1] is None:
                    at = made.index(None) - 1
                    self.fails(Refused, presses[at], looks_shown, machine, looks, hands, history, presses)
                else:
                    shown = tuple(look_of(machine, looks, stands) for stands in made)
                    self.same(looks_shown(machine, looks, hands, history, presses), shown)
                    self.untouched(looks_shown, machine, looks, hands, history, tuple(presses))
        self.same(looks_shown(LAMP, (5, 3), 2, ((0, 0),), []), (3,))

    def test_seen_to_be_alike_by_all_presses(self):
        for machine, looks in CASES:
            for counts in ((1,), (1, 1), (2, 1)):
                hands, histories = len(counts), histories_with(machine, counts)
                for one, other in list(zip(histories, histories[::-1]))[:8] + list(zip(histories, histories[1:]))[:4]:
                    self.pair(machine, looks, hands, one, other)

    def pair(self, machine, looks, hands, one, other):
        presses = seen_parting(machine, looks, hands, one, other)
        self.same(seen_alike(machine, looks, hands, one, other), presses is None)
        if presses is None:
            self.assertIsNone(fewest_apart(machine, looks, hands, one, other, 3))
            return
        self.assertTrue(all(press.__class__ is tuple for press in (presses, *presses)))
        shown = [looks_shown(machine, looks, hands, history, presses) for history in (one, other)]
        self.assertEqual((shown[0][:-1], shown[0] == shown[1]), (shown[1][:-1], False))
        if len(presses) <= 4:
            self.assertEqual(fewest_apart(machine, looks, hands, one, other, len(presses)), len(presses))

    def test_fewest_by_the_tables(self):
        """By all vectors as many backs as lead there, and the fewest deeds that part the boards there."""
        chance = random.Random(208)
        for machine, looks in CASES:
            for hands in (1, 2, 3):
                one = [(chance.randrange(hands), chance.randrange(len(machine[1]))) for _ in range(6)]
                other = [(hand, chance.randrange(len(machine[1]))) for hand, _ in one]
                chance.shuffle(other)
                vectors = itertools.product(*[range(many + 1) for many in counts_in(hands, one)])
                told = [6 - sum(vector) + self.fewest_deeds(machine, looks, first_deeds(one, vector),
                                                            first_deeds(other, vector)) for vector in vectors]
                presses = seen_parting(machine, looks, hands, one, other)
                self.assertEqual(min(told), 999 if presses is None else len(presses))

    def fewest_deeds(self, machine, looks, one, other):
        pairs = {(board_of(machine, one), board_of(machine, other))}
        for many in range(20):
            if any(looks[left] != looks[right] for left, right in pairs):
                return many
            pairs = {(moves[left], moves[right]) for left, right in pairs for moves in machine[1]}
        return 999

    def test_deeds_may_be_needed(self):
        self.same(len(seen_parting(LATE, (0, 0, 0, 0, 0, 1), 1, ((0, 0),), ((0, 1),))), 4)
        self.same(len(seen_parting(RING, (0, 0, 0, 1), 2, ((1, 0),), ((1, 1),))), 2)
        # A back is one press, the deeds that would tell are two.
        one, other = ((0, 0), (0, 0), (0, 0), (0, 0)), ((0, 0), (0, 1), (0, 1), (0, 1))
        self.same(seen_parting(RING, (0, 0, 0, 1), 1, one, other), (("back", 0),))
        self.same(seen_parting(RING, (0, 0, 0, 1), 1, one[1:], other[1:]), ())
        # Two boards come together at several vectors; the nearest one is not the last.
        one, other = ((0, 0), (1, 0), (1, 1)), ((1, 1), (1, 1), (0, 1))
        self.same(seen_parting((0, ((1, 0), (0, 1))), (0, 1), 2, one, other), (("back", 0),))

    def test_unlike_numbers(self):
        for one, other in ((((0, 0),), ((1, 0),)), ((), ((0, 0),)), (((0, 0), (1, 1)), ((0, 0),))):
            self.same(seen_parting(RING, (7, 7, 7, 7), 2, one, other), ())
            self.same(seen_alike(RING, (7, 7, 7, 7), 2, one, other), False)
        self.same(seen_parting(RING, (7, 7, 7, 7), 2, ((0, 0),), ((0, 1),)), None)

    def test_at_the_least_machine(self):
        chance = random.Random(204)
        for machine, looks in CASES:
            least = least_machine(machine, looks)[0]
            for hands in (1, 2, 3, 4):
                history = tuple((chance.randrange(hands), chance.randrange(len(machine[1]))) for _ in range(5))
                self.same(seen_table(machine, looks, hands, history), tried_table(least, hands, history))
                self.same(seen_normal(machine, looks, hands, history), normal_of(least, hands, history))
                self.untouched(seen_table, machine, looks, hands, history)
                self.untouched(seen_normal, machine, looks, hands, history)
                self.same(seen_alike(machine, looks, hands, history, seen_normal(machine, looks, hands, history)), True)

    def test_kinds_seen_by_all_presses(self):
        for machine, looks in FEW:
            for counts in ((0,), (2,), (1, 1)):
                hands, kinds = len(counts), []
                for history in histories_with(machine, counts):
                    if all(fewest_apart(machine, looks, hands, history, other, 4) is not None for other in kinds):
                        kinds.append(history)
                self.same(seen_count(machine, looks, counts, most=2000), len(kinds))

    def test_kinds_seen_by_tables(self):
        for machine, looks in CASES:
            least = least_machine(machine, looks)[0]
            for counts in ((3,), (2, 1), (1, 1, 1), (2, 2)):
                tables = {tried_table(least, len(counts), history) for history in histories_with(least, counts)}
                self.same(seen_count(machine, looks, counts, most=2000), len(tables))
                self.same(seen_count(machine, looks, counts, most=2000), count(least, counts, most=2000))
            self.untouched(seen_count, machine, looks, (1, 2), most=2000)
            self.same(seen_count(machine, (3,) * len(looks), (2, 2), most=1 + 10), 1)

    def test_order_of_errors(self):
        looks = (0, 1)
        for call, more in ((seen_table, ()), (seen_normal, ()), (seen_alike, (9,)), (seen_parting, (9,)),
                           (looks_shown, (9,))):
            self.fails(BadMachine, -1, call, 9, 9, 9, 9, *more)
            for value in ODD + ((0,), (0, 1, 2), (0, -1), (0, True), 5):
                if repr(value) not in ("(0, 0)", "[0, 0]"):
                    self.fails(Refused, value, call, LAMP, value, 9, 9, *more)
            for value in [value for value in ODD if type(value) is not int] + [0, 5, -1]:
                self.fails(Refused, value, call, LAMP, looks, value, 9, *more)
            self.fails(BadHistory, -1, call, LAMP, looks, 2, 9, *more)
            self.fails(BadHistory, 1, call, LAMP, looks, 2, ((0, 0), (2, 0)), *more)
        for call in (seen_alike, seen_parting):
            self.fails(BadHistory, 0, call, LAMP, looks, 2, (), ((0, 2),))
            self.untouched(call, LAMP, looks, 2, ((0, 0), (1, 1)), ((1, 1), (0, 0)))

    def test_errors_of_presses(self):
        told = (LAMP, (0, 1), 2, ((0, 0),))
        for value in ODD:
            if not isinstance(value, (list, tuple)):
                self.fails(Refused, value, looks_shown, *told, value)
            self.fails(Refused, value, looks_shown, *told, [("deed", 1, 1), value, None])
        self.fails(NoHand, 2, looks_shown, *told, [("deed", 2, 5)])
        self.fails(NoDeed, 2, looks_shown, *told, [("deed", 1, 2), None])
        self.fails(Refused, ["back", 1], looks_shown, *told, [["back", 0], ["back", 1]])

    def test_errors_of_counts(self):
        self.fails(BadMachine, 1, seen_count, (0, ()), 9, 9, most=9)
        self.fails(Refused, (0,), seen_count, LAMP, (0,), 9, most=9)
        for value in (None, 0, (), (0,) * 5, (-1,), (True,), [None], "11", ((1,),)):
            self.fails(Refused, value, seen_count, LAMP, (0, 1), value, most=1)
        self.fails(TooGreat, 1, seen_count, LAMP, (0, 1), (2, 2), most=1)
        self.same(seen_count(LAMP, (4, 4), (2, 2), most=12), 1)

    def test_limits(self):
        begun = time.monotonic()
        chance = random.Random(205)
        for machine in random_machines(8, 8, 6, seed=206):
            looks = [chance.randrange(2) for _ in machine[1][0]]
            history = [(at % 4, chance.randrange(len(machine[1]))) for at in range(12)]
            other = history[::-1]
            presses = seen_parting(machine, looks, 4, history, other)
            self.same(seen_alike(machine, looks, 4, history, other), presses is None)
            self.assertEqual(len(seen_table(machine, looks, 4, history)[1]), 256)
            self.assertEqual(counts_in(4, seen_normal(machine, looks, 4, history)), (3, 3, 3, 3))
        for machine in random_machines(4, 8, 2, seed=207):
            looks = [board % 2 for board in machine[1][0]]
            if len(least_machine(machine, looks)[0][1][0]) <= 3:
                self.assertGreater(seen_count(machine, looks, (2, 2, 2), most=2000), 0)
        self.assertLess(time.monotonic() - begun, 20)


class Theorem(unittest.TestCase, Trying):

    def test_one_table_at_the_least_machine(self):
        """Seen to be alike by all presses of few, exactly if the tables at the least machine are one."""
        for machine, looks in FEW:
            for one, other in itertools.product(list(all_rows(((0, 0), (1, len(machine[1]) - 1)), 2)), repeat=2):
                if counts_in(2, one) == counts_in(2, other):
                    same = seen_table(machine, looks, 2, one) == seen_table(machine, looks, 2, other)
                    self.assertEqual(fewest_apart(machine, looks, 2, one, other, 4) is None, same)
