import itertools
import random
import time
import unittest

from ownback.counts import count
from ownback.errors import BadHistory, BadMachine, Refused, TooGreat
from ownback.groups import blurs, unlike_deeds
from ownback.traces import (
    clique_counts, do_lean, is_trace, kinds_are_traces, letters_of, same_trace, trace_count, trace_history,
    trace_paper, trace_polynomial, trace_steps, trace_totals, traces_of, traces_paper,
)
from tests.test_groups import come, commute, same_at
from tests.trying import LAMP, ODD, SMALL, Trying, as_lists, histories_with, random_machines, tried_table

LAMP_OUT = (0, ((1, 0), (0, 0)))
LIGHT = (0, ((1, 0), (0, 1)))
SETTING = (0, ((0, 0), (1, 1)))
# Deeds 0 and 2 commute with all, deeds 1 and 3 do not commute; deed 4 is alike to deed 1.
MIXED = (0, ((0, 1, 2, 3), (1, 0, 2, 3), (0, 1, 2, 3), (0, 2, 1, 3), (1, 0, 2, 0)))
# Two switches of their own lights.
TWO = (0, ((1, 0, 3, 2), (2, 3, 0, 1)))
MACHINES = SMALL + (LAMP_OUT, LIGHT, MIXED, TWO) + tuple(random_machines(8, 4, 3, seed=131))
COUNTS = ((0,), (3,), (1, 1), (2, 1), (2, 2), (1, 1, 1), (0, 2, 0, 1))


def tried_letters(machine, history):
    boards = come(machine)
    return tuple((hand, min(other for other in range(len(machine[1]))
                            if all(same_at(machine, board, deed, other) for board in boards))) for hand, deed in history)


def tried_lean(machine, letter, other):
    if letter[0] == other[0]:
        return True
    return not all(commute(machine, board, letter[1], other[1]) for board in come(machine))


KNOWN = {}


def known_lean(machine, letter, other):
    key = (machine, letter, other)
    if key not in KNOWN:
        KNOWN[key] = tried_lean(machine, letter, other)
    return KNOWN[key]


def of_trace(machine, letters):
    """All rows of letters that exchanges of neighbours that do not lean lead to, with nothing but trying."""
    found, reached = {letters}, [letters]
    for row in reached:
        for at in range(len(row) - 1):
            if not known_lean(machine, row[at], row[at + 1]):
                behind = row[:at] + (row[at + 1], row[at]) + row[at + 2:]
                if behind not in found:
                    found.add(behind)
                    reached.append(behind)
    return found


TRACES = {}


def by_trace(machine, counts):
    """All histories with these counts, those of one trace together."""
    if (machine, counts) not in TRACES:
        names, found = {}, {}
        for history in histories_with(machine, counts):
            letters = tried_letters(machine, history)
            if letters not in names:
                for row in of_trace(machine, letters):
                    names[row] = letters
            found.setdefault(names[letters], []).append(history)
        TRACES[machine, counts] = list(found.values())
    return TRACES[machine, counts]


def tried_steps(machine, letters):
    """The one way to part a row of this trace into steps, with nothing but trying."""
    found = set()
    for row in of_trace(machine, letters):
        for cuts in itertools.product((False, True), repeat=max(len(row) - 1, 0)):
            steps, step = [], row[:1]
            for cut, letter in zip(cuts, row[1:]):
                steps, step = (steps + [step], (letter,)) if cut else (steps, step + (letter,))
            steps = tuple(steps + [step]) if row else ()
            if are_steps(machine, steps):
                found.add(steps)
    assert len(found) == 1
    return found.pop()


def are_steps(machine, steps):
    for at, step in enumerate(steps):
        if list(step) != sorted(set(step)) or not step or tried_letters(machine, step) != step:
            return False
        if any(known_lean(machine, one, other) for one, other in itertools.combinations(step, 2)):
            return False
        if at > 0 and not all(any(known_lean(machine, letter, ahead) for ahead in steps[at - 1]) for letter in step):
            return False
    return True


def tried_paper(machine, one, other):
    """By its own words."""
    come_here = sorted(set(one + other))
    for first, second in itertools.combinations_with_replacement(come_here, 2):
        if tried_lean(machine, first, second):
            rows = [[letter for letter in row if letter in (first, second)] for row in (one, other)]
            if rows[0] != rows[1]:
                return first, second
    return None


class Traces(unittest.TestCase, Trying):
    """Point [65]."""

    def test_letters(self):
        for machine in MACHINES:
            for history in histories_with(machine, (1, 2))[::5]:
                self.same(letters_of(machine, 2, history), tried_letters(machine, history))
        self.same(letters_of(MIXED, 2, [(1, 2), [0, 4], (1, 3)]), ((1, 0), (0, 1), (1, 3)))
        self.same(letters_of((0, ((0, 1), (0, 0))), 1, ((0, 1),)), ((0, 0),))

    def test_leaning(self):
        for machine in MACHINES:
            letters = list(itertools.product(range(3), range(len(machine[1]))))
            for letter, other in itertools.product(letters, repeat=2):
                self.same(do_lean(machine, 3, letter, other), tried_lean(machine, letter, other))
        self.untouched(do_lean, LAMP, 2, (0, 1), (1, 0))

    def test_any_value_as_a_letter(self):
        for value in [value for value in ODD if repr(value) not in ("(0, 0)",)] + [(2, 0), (0, 2), (0, True), [0]]:
            self.fails(Refused, value, do_lean, LAMP, 2, value, 9)
            self.fails(Refused, value, do_lean, LAMP, 2, (1, 1), value)

    def test_against_all_exchanges(self):
        for machine in MACHINES:
            for counts in COUNTS:
                self.one_by_one(machine, counts)

    def one_by_one(self, machine, counts):
        hands, chance = len(counts), random.Random(132)
        traces = by_trace(machine, counts)
        found = [trace_steps(machine, hands, histories[0]) for histories in traces]
        self.assertEqual(len(set(found)), len(traces))
        for histories, steps in list(zip(traces, found))[:25]:
            self.same(steps, tried_steps(machine, tried_letters(machine, histories[0])))
            self.same(trace_steps(machine, hands, histories[-1]), steps)
            self.same(is_trace(machine, hands, steps), True)
            letters = trace_history(machine, hands, steps)
            self.same(letters, tuple(letter for step in steps for letter in step))
            self.same(same_trace(machine, hands, histories[0], letters), True)
            other = chance.choice(chance.choice(traces))
            self.beside(machine, hands, histories[0], other, other in histories)
            self.beside(machine, hands, histories[0], histories[-1], True)

    def beside(self, machine, hands, history, other, same):
        self.same(same_trace(machine, hands, history, other), same)
        paper = tried_paper(machine, tried_letters(machine, history), tried_letters(machine, other))
        self.assertEqual(paper is None, same)
        self.same(trace_paper(machine, hands, history, other), paper)

    def test_unlike_numbers(self):
        self.same(trace_paper(LAMP, 2, ((0, 0), (1, 1)), ((1, 1),)), ((0, 0), (0, 0)))
        self.same(trace_paper(LAMP, 2, ((1, 1),), ((1, 1), (1, 1))), ((1, 1), (1, 1)))
        self.same(trace_paper(LAMP, 2, (), ((1, 0), (0, 1))), ((0, 1), (0, 1)))
        self.same(trace_paper(LAMP, 2, ((0, 0), (0, 1)), ((0, 1), (0, 0))), ((0, 0), (0, 1)))
        self.same((same_trace(LAMP, 2, (), ((1, 0),)), same_trace(LAMP, 2, (), ())), (False, True))

    def test_any_value_as_steps(self):
        for value in ODD:
            nothing = isinstance(value, (list, tuple)) and len(value) == 0
            self.same(is_trace(LAMP, 2, value), nothing)
            if not nothing:
                self.fails(Refused, value, trace_history, LAMP, 2, value)
            self.same(is_trace(LAMP, 2, (((0, 0),), value)), False)
            self.same(is_trace(LAMP, 2, [[value]]), repr(value) == "(0, 0)")
        self.same(trace_history(LAMP, 2, []), ())
        self.same(trace_history(TWO, 2, [[(0, 0), [1, 1]], [[0, 1]]]), ((0, 0), (1, 1), (0, 1)))

    def test_wrong_steps(self):
        wrong = (
            (((0, 0), (1, 1)),), (((1, 1), (0, 0)),), (((0, 0),), ((1, 0),)), (((0, 0), (0, 0)),), ((), ((0, 0),)),
            (((0, 0),), ()), (((0, 0), (0, 1)),),
        )
        for machine, value in ((MIXED, (((0, 1), (1, 3)),)), (MIXED, (((0, 0),), ((1, 3),))), (MIXED, (((0, 2),),)),
                               *[(LAMP_OUT, value) for value in wrong[:2]], *[(LIGHT, value) for value in wrong[2:]]):
            self.same(is_trace(machine, 2, value), False)
            self.fails(Refused, value, trace_history, machine, 2, value)
        for machine, value in ((MIXED, (((0, 0), (1, 3)), ((0, 1),))), (LIGHT, (((0, 0), (1, 0)), ((1, 0),)))):
            self.same(is_trace(machine, 2, value), True)
            self.same(is_trace(machine, 2, as_lists(value)), True)

    def test_all_small_values_as_steps(self):
        letters = [(hand, deed) for hand in range(3) for deed in range(2)]
        rows = [row for many in range(3) for row in itertools.product(letters, repeat=many)]
        for machine in (LAMP, LIGHT, TWO):
            for value in itertools.product(rows, repeat=2):
                right = all(letter[0] < 2 for step in value for letter in step) and are_steps(machine, value)
                self.same(is_trace(machine, 2, value), right)

    def test_errors(self):
        for call, more in ((letters_of, ()), (trace_steps, ()), (same_trace, (9,)), (trace_paper, (9,))):
            self.fails(BadMachine, -1, call, 9, 9, 9, *more)
            for hands in (0, 5, True, None, "2"):
                self.fails(Refused, hands, call, LAMP, hands, 9, *more)
            self.fails(BadHistory, -1, call, LAMP, 2, 9, *more)
            self.fails(BadHistory, 1, call, LAMP, 2, ((0, 0), (0, 2)), *more)
        for call in (same_trace, trace_paper):
            self.fails(BadHistory, 0, call, LAMP, 2, ((0, 0),), ((2, 0),))
            self.untouched(call, LAMP, 2, ((0, 0), (1, 1)), ((1, 1), (0, 0)))
            self.same(call(machine=LAMP, hands=2, history=(), other=()), call(LAMP, 2, (), ()))
        for call in (do_lean, is_trace, trace_history, traces_paper, kinds_are_traces, clique_counts, trace_polynomial,
                     trace_totals):
            more = {do_lean: (9, 9), is_trace: (9,), trace_history: (9,), trace_totals: (None,)}.get(call, ())
            self.fails(BadMachine, 1, call, (0, ()), 9, *more)
            for value in [value for value in ODD if type(value) is not int] + [0, 5, -1]:
                self.fails(Refused, value, call, LAMP, value, *more)


def fewest_apart(machine, hands, most):
    """With how many deeds, up to most, some histories of one table are not one trace, None if none are."""
    for many in range(most + 1):
        for counts in itertools.product(range(many + 1), repeat=hands):
            if sum(counts) == many:
                tables = {}
                for at, histories in enumerate(by_trace(machine, counts)):
                    for history in histories:
                        tables.setdefault(tried_table(machine, hands, history), set()).add(at)
                if any(len(traces) > 1 for traces in tables.values()):
                    return many
    return None


class Theorem(unittest.TestCase, Trying):
    """Point [66]."""

    def test_against_all_histories(self):
        for machine in MACHINES:
            for hands in (1, 2):
                paper = traces_paper(machine, hands)
                self.same(kinds_are_traces(machine, hands), paper is None)
                self.same(paper is None, blurs(machine, hands) == ())
                most = 3 if hands == 2 else 4
                fewest = fewest_apart(machine, hands, most)
                if paper is None or len(paper[0]) > most:
                    self.assertIsNone(fewest)
                else:
                    self.assertEqual(fewest, len(paper[0]))

    def test_papers(self):
        for machine in MACHINES + tuple(random_machines(60, 8, 4, seed=133)):
            for hands in (1, 2, 3, 4):
                paper = traces_paper(machine, hands)
                if paper is not None:
                    self.assertEqual([row.__class__ for row in (paper, *paper)], [tuple] * 3)
                    one, other = paper
                    self.assertEqual(len(one), len(other))
                    self.assertEqual(tried_table(machine, hands, one), tried_table(machine, hands, other))
                    self.same(same_trace(machine, hands, one, other), False)

    def test_hands_tell(self):
        # Nothing is alike at any board that can come; two deeds commute at one of them alone, one deed from the start.
        machine = (0, ((2, 3, 1, 0), (1, 2, 0, 3)))
        self.same((blurs(machine, 1), traces_paper(machine, 1), kinds_are_traces(machine, 1)), ((), None, True))
        self.same((blurs(machine, 2), kinds_are_traces(machine, 2)), ((("commuting", 0, 1, 2),), False))
        self.assertEqual((len(traces_paper(machine, 2)[0]), fewest_apart(machine, 2, 3)), (3, 3))
        self.same((kinds_are_traces(LAMP, 1), kinds_are_traces(LAMP, 2)), (False, False))
        self.same((kinds_are_traces(LIGHT, 4), kinds_are_traces(SETTING, 4), traces_paper(TWO, 4)), (True, True, None))

    def test_kinds_are_as_many_exactly_if_nothing_is_blurred(self):
        for machine in MACHINES:
            for counts in ((2,), (1, 1), (2, 1), (1, 1, 1)):
                kinds, traces = count(machine, counts, most=2000), trace_count(machine, counts)
                self.assertLessEqual(kinds, traces)
                if kinds_are_traces(machine, len(counts)):
                    self.assertEqual(kinds, traces)

    def test_lists_are_taken_and_left(self):
        for call in (traces_paper, kinds_are_traces, clique_counts, trace_polynomial):
            self.untouched(call, LAMP_OUT, 2)


class Numbers(unittest.TestCase, Trying):
    """Point [67]."""

    def test_cliques(self):
        for machine in MACHINES:
            boards, deeds = come(machine), unlike_deeds(machine)
            for hands in (1, 2, 3, 4):
                found = tuple(sum(all(commute(machine, board, one, other) for board in boards for one in row
                                      for other in row) for row in itertools.product(deeds, repeat=many))
                              for many in range(hands + 1))
                self.same(clique_counts(machine, hands), found)

    def test_counts_against_all_histories(self):
        for machine in MACHINES:
            for counts in COUNTS:
                self.same(trace_count(machine, counts), len(by_trace(machine, counts)))
                self.untouched(trace_count, machine, counts)

    def test_all_of_them(self):
        for machine in MACHINES:
            for counts in COUNTS:
                steps = sorted(trace_steps(machine, len(counts), histories[0]) for histories in by_trace(machine, counts))
                self.same(traces_of(machine, counts, most=len(steps)), tuple(steps))
                if len(steps) > 1:
                    self.fails(TooGreat, len(steps) - 1, traces_of, machine, counts, most=len(steps) - 1)
        self.same(traces_of(LAMP, [0, 0], most=1), ((),))
        self.untouched(traces_of, LAMP, (1, 2), most=99)

    def test_totals(self):
        for machine in MACHINES:
            for hands in (1, 2, 3):
                many = 4 if hands < 3 else 2
                found = [sum(trace_count(machine, counts) for counts in itertools.product(range(total + 1), repeat=hands)
                             if sum(counts) == total) for total in range(many + 1)]
                self.same(trace_totals(machine, hands, many), tuple(found))
                self.same(trace_totals(machine, hands, 0), (1,))

    def test_polynomials(self):
        for machine in MACHINES:
            for hands in (1, 2, 3, 4):
                rows = clique_counts(machine, hands)
                told = trace_polynomial(machine, hands)
                lots = [len(list(itertools.combinations(range(hands), size))) for size in range(hands + 1)]
                self.same(told, tuple((-1) ** size * lots[size] * rows[size] for size in range(hands + 1)))
                totals = trace_totals(machine, hands, 9)
                for at in range(1, 10):
                    self.assertEqual(sum(told[back] * totals[at - back] for back in range(min(hands, at) + 1)), 0)

    def test_errors(self):
        for call, named in ((trace_count, {}), (traces_of, {"most": None})):
            self.fails(BadMachine, -1, call, 9, 9, **named)
            for value in (None, 0, (), (0,) * 5, (-1,), (True,), [None], "11", ((1,),)):
                self.fails(Refused, value, call, LAMP, value, **named)
        for value in [value for value in ODD if type(value) is not int] + [0, -1]:
            self.fails(Refused, value, traces_of, LAMP, (2,), most=value)
        for value in [value for value in ODD if type(value) is not int] + [-1]:
            self.fails(Refused, value, trace_totals, LAMP, 2, value)

    def test_limits(self):
        begun = time.monotonic()
        chance = random.Random(134)
        for machine in random_machines(6, 8, 6, seed=135) + [(0, tuple(tuple(range(8)) for _ in range(6)))]:
            for counts in ((1999,), (43, 44), (11, 12, 12), (6, 6, 5, 5)):
                self.assertGreater(trace_count(machine, counts), 0)
            self.assertEqual(len(trace_totals(machine, 4, 60)), 61)
            history = [(chance.randrange(4), chance.randrange(len(machine[1]))) for _ in range(40)]
            steps = trace_steps(machine, 4, history)
            self.same(is_trace(machine, 4, steps), True)
            self.same(trace_paper(machine, 4, history, trace_history(machine, 4, steps)), None)
        for machine, counts, many in ((LIGHT, (2, 2, 2, 2), 256), ((0, ((0,),) * 6), (2, 2, 2, 2), 1),
                                      ((0, ((1, 2, 0), (2, 0, 1), (0, 1, 2))), (2, 2, 2), 729), (SETTING, (6, 1), 512)):
            self.assertEqual(len(traces_of(machine, counts, most=2000)), many)
        self.fails(TooGreat, 2000, traces_of, MIXED, (2, 2, 2, 2), most=2000)
        self.assertLess(time.monotonic() - begun, 20)
