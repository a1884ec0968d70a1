import itertools
import random
import time
import unittest

from ownback.errors import BadHistory, BadMachine, NoHand, Refused, TooGreat
from ownback.finite import corner_boards
from ownback.steps import all_led, fewest_steps, some_way, stepped, unseen_steps, way_holds
from ownback.tables import alike
from tests.trying import LAMP, ODD, SMALL, Trying, by_table, histories_with, random_machines, tried_table

MACHINES = SMALL + tuple(random_machines(6, 3, 3, seed=77))
COUNTS = ((2,), (2, 1), (1, 1, 1), (2, 2), (0, 2, 0, 1))
ONE, OTHER = ((0, 0), (1, 1)), ((1, 1), (0, 1))


def all_rows_of_steps(machine, history):
    """All steps of a history, seen or not, ascending, each with the history behind it."""
    found = []
    for at in range(len(history) - 1):
        if history[at][0] != history[at + 1][0]:
            found.append((("exchange", at), history[:at] + (history[at + 1], history[at]) + history[at + 2:]))
    for at, (hand, deed) in enumerate(history):
        for put in range(len(machine[1])):
            if put != deed:
                found.append((("put", at, put), history[:at] + ((hand, put),) + history[at + 1:]))
    return found


def tried_steps(machine, hands, history):
    table = tried_table(machine, hands, history)
    return [(step, behind) for step, behind in all_rows_of_steps(machine, history)
            if tried_table(machine, hands, behind) == table]


def led_to(machine, hands, history):
    """By history that is come to the fewest unseen steps, with nothing but trying."""
    found, come = {history: 0}, [history]
    for reached in come:
        for _, behind in tried_steps(machine, hands, reached):
            if behind not in found:
                found[behind] = found[reached] + 1
                come.append(behind)
    return found


def cases():
    """Machines, numbers of hands, and some histories of each table."""
    for machine in MACHINES:
        for counts in COUNTS:
            for histories in by_table(machine, counts).values():
                yield machine, len(counts), histories


CASES = list(cases())


class Steps(unittest.TestCase, Trying):
    """Point [28]."""

    def test_against_all_steps(self):
        for machine, hands, histories in CASES:
            for history in histories[::3]:
                tried = tried_steps(machine, hands, history)
                self.same(unseen_steps(machine, hands, history), tuple(step for step, _ in tried))
                for step, behind in tried:
                    self.same(stepped(machine, hands, history, step), behind)
                for step, _ in all_rows_of_steps(machine, history):
                    if step not in dict(tried):
                        self.fails(Refused, step, stepped, machine, hands, history, step)

    def test_told_by_corner_boards(self):
        for machine, hands, histories in CASES[::2]:
            history = histories[-1]
            unseen = unseen_steps(machine, hands, history)
            for step, _ in all_rows_of_steps(machine, history):
                ahead, (hand, deed) = history[:step[1]], history[step[1]]
                if step[0] == "put":
                    corner = corner_boards(machine, hands, ahead, (hand,))
                    one, other = machine[1][deed], machine[1][step[2]]
                    holds = all(one[board] == other[board] for board in corner)
                else:
                    far, moved = history[step[1] + 1]
                    corner = corner_boards(machine, hands, ahead, sorted((hand, far)))
                    one, other = machine[1][deed], machine[1][moved]
                    holds = all(one[other[board]] == other[one[board]] for board in corner)
                self.assertEqual(step in unseen, holds)

    def test_any_value_as_a_step(self):
        history = ((0, 0), (1, 1), (1, 0), (0, 1))
        unseen = unseen_steps(SMALL[6], 2, history)
        values = [value for value in ODD] + [
            ("exchange",), ("exchange", 3), ("exchange", 1), ("exchange", -1), ("exchange", True), ("exchange", 0, 0),
            ("put", 0), ("put", 4, 0), ("put", -1, 0), ("put", 0, 0), ("put", 0, 2), ("put", 1, True), ("put", False, 1),
            ("put", 0, -1), ("put", 0, 1, 0), (b"put", 0, 1), ("exchange", "0"), ["exchange", [0]], ("put", (0,), 1),
        ]
        for value in values:
            if value not in unseen:
                self.fails(Refused, value, stepped, SMALL[6], 2, history, value)

    def test_steps_have_their_own_words(self):
        still, history = (0, ((0,), (0,))), ((0, 0), (1, 0))
        self.same(unseen_steps(still, 2, history), (("exchange", 0), ("put", 0, 1), ("put", 1, 1)))
        for value in (("deed", 0, 1), ("exchange", 0, 1), ("back", 0), ("put", 0), (None, 0, 1), (0, 0, 1), ("putt", 0, 1)):
            self.fails(Refused, value, stepped, still, 2, history, value)
            self.same(way_holds(still, 2, history, ((0, 1), (1, 0)), [value]), False)
            self.same(way_holds(still, 2, history, ((1, 0), (0, 0)), [value]), False)

    def test_few_deeds(self):
        self.same(unseen_steps(LAMP, 3, ()), ())
        self.same(unseen_steps((0, ((0,), (0,), (0,))), 1, [[0, 1]]), (("put", 0, 0), ("put", 0, 2)))
        self.same(unseen_steps((0, ((0,),)), 2, [[0, 0], [1, 0]]), (("exchange", 0),))

    def test_lists_are_taken_and_left(self):
        history = ((0, 1), (1, 1))
        self.untouched(unseen_steps, LAMP, 2, history)
        self.untouched(stepped, LAMP, 2, history, ("exchange", 0))
        self.untouched(stepped, LAMP, 2, history, ("put", 0, 0))

    def test_errors(self):
        for call, more in ((unseen_steps, ()), (stepped, (None,))):
            self.fails(BadMachine, -1, call, None, None, None, *more)
            for value in [value for value in ODD if value not in (1, 2, 3, 4) or value is True]:
                self.fails(Refused, value, call, LAMP, value, None, *more)
            self.fails(BadHistory, -1, call, LAMP, 2, None, *more)
            self.fails(BadHistory, 1, call, LAMP, 2, ((0, 0), (2, 0)), *more)
            self.fails(BadHistory, 0, call, LAMP, 2, ((0, 2), None), *more)


class Ways(unittest.TestCase, Trying):
    """Point [29]."""

    def test_fewest_against_all(self):
        chance = random.Random(6)
        for machine, hands, histories in CASES:
            one = chance.choice(histories)
            led = led_to(machine, hands, one)
            self.assertEqual(set(led), set(histories))
            for other in histories:
                self.same(fewest_steps(machine, hands, one, other), led[other])
                self.way_leads(machine, hands, one, other, some_way(machine, hands, one, other), led[other])

    def way_leads(self, machine, hands, one, other, way, many):
        self.assertEqual(len(way), many)
        self.same(way, tuple(tuple(step) for step in way))
        self.same(way_holds(machine, hands, one, other, way), True)
        for step in way:
            one = dict(tried_steps(machine, hands, one))[step]
        self.same(one, other)

    def test_none_where_they_are_not_alike(self):
        for machine in MACHINES:
            for counts in ((2,), (2, 1), (1, 1, 1)):
                histories = histories_with(machine, counts)
                for one, other in zip(histories, histories[::-1]):
                    told = tried_table(machine, len(counts), one) == tried_table(machine, len(counts), other)
                    self.assertEqual(alike(machine, len(counts), one, other), told)
                    if not told:
                        self.same(fewest_steps(machine, len(counts), one, other), None)
                        self.same(some_way(machine, len(counts), one, other), None)
        self.same(fewest_steps(LAMP, 2, ((0, 0),), ((1, 0),)), None)
        self.same(some_way(LAMP, 2, ((0, 0),), ()), None)

    def test_of_one_sort(self):
        still = (0, ((0,), (0,)))
        self.same(fewest_steps(still, 2, ((0, 0), (1, 1)), ((1, 1), (0, 0))), 1)
        self.same(some_way(still, 2, ((0, 0), (1, 1)), ((1, 1), (0, 0))), (("exchange", 0),))
        self.same(fewest_steps(still, 2, ((0, 0), (1, 1)), ((0, 1), (1, 0))), 2)
        self.assertEqual(set(some_way(still, 2, ((0, 0), (1, 1)), ((0, 1), (1, 0)))), {("put", 0, 1), ("put", 1, 0)})
        self.same(some_way(still, 2, ONE, ONE), ())

    def test_lists_are_taken_and_left(self):
        self.untouched(fewest_steps, LAMP, 2, ((0, 1), (1, 1)), ((1, 1), (0, 0)))
        self.untouched(some_way, LAMP, 2, ((0, 1), (1, 1)), ((1, 1), (0, 0)))

    def test_errors(self):
        for call, more in ((fewest_steps, ()), (some_way, ()), (way_holds, (None,))):
            self.fails(BadMachine, 1, call, (0, ()), None, None, None, *more)
            self.fails(Refused, 5, call, LAMP, 5, None, None, *more)
            self.fails(Refused, True, call, LAMP, True, None, None, *more)
            self.fails(BadHistory, -1, call, LAMP, 2, "", None, *more)
            self.fails(BadHistory, 0, call, LAMP, 2, (None,), None, *more)
            self.fails(BadHistory, -1, call, LAMP, 2, (), NoHand(0), *more)
            self.fails(BadHistory, 1, call, LAMP, 2, (), ((1, 1), (1, True)), *more)


class Judged(unittest.TestCase, Trying):
    """Point [30]."""

    def test_against_all_rows_of_steps(self):
        for machine, hands, histories in CASES[::11]:
            one = histories[0]
            steps = [step for step, _ in all_rows_of_steps(machine, one)] + [("exchange", 9), ("put", 0, 9)]
            for row in itertools.product(steps[:7], repeat=2):
                behind, seen = one, False
                for step in row:
                    known = dict(tried_steps(machine, hands, behind))
                    seen = seen or step not in known
                    behind = known.get(step, behind)
                for other in histories[:4]:
                    self.same(way_holds(machine, hands, one, other, row), not seen and behind == other)

    def test_any_value(self):
        way = (("put", 0, 1), ("exchange", 0))
        machine, one, other = (0, ((0,), (0,))), ((0, 0), (1, 1)), ((1, 1), (0, 1))
        self.same(way_holds(machine, 2, one, other, way), True)
        self.same(way_holds(machine, 2, one, other, [list(step) for step in way]), True)
        for value in ODD:
            self.same(way_holds(machine, 2, one, other, value), False)
            self.same(way_holds(machine, 2, one, other, way + (value,)), False)
        for value in (way[:1], way[1:], way * 2, (("put", False, 1), way[1]), (("put", 0, True), way[1]), "way"):
            self.same(way_holds(machine, 2, one, other, value), False)
        self.same(way_holds(machine, 2, one, one, []), True)
        self.same(way_holds(LAMP, 2, ((0, 0),), ((0, 1),), [("put", 0, 1)]), True)
        self.same(way_holds(LAMP, 2, ((0, 1),), ((1, 1),), ()), False)
        self.same(way_holds(LAMP, 1, ((0, 0), (0, 0)), ((0, 0), (0, 1)), [("put", 1, 1)]), False)


class All(unittest.TestCase, Trying):
    """Point [31]."""

    def test_against_all_histories(self):
        for machine, hands, histories in CASES:
            many = len(histories)
            for history in (histories[0], histories[many // 2]):
                self.same(all_led(machine, hands, history, most=many), tuple(histories))
                if many > 1:
                    self.fails(TooGreat, many - 1, all_led, machine, hands, history, most=many - 1)

    def test_errors_and_lists(self):
        self.fails(BadMachine, 0, all_led, (1, ((0,),)), None, None, most=1)
        self.fails(Refused, 0, all_led, LAMP, 0, None, most=1)
        self.fails(BadHistory, 0, all_led, LAMP, 2, [()], most=1)
        self.untouched(all_led, LAMP, 2, ONE, most=9)
        self.same(all_led(LAMP, 4, (), most=1), ((),))


class Limits(unittest.TestCase, Trying):

    def test_limits(self):
        chance = random.Random(3)
        begun = time.monotonic()
        for boards, deeds, hands in ((8, 6, 4), (2, 2, 4), (3, 1, 2), (1, 6, 3)):
            machine = random_machines(40, boards, deeds, seed=boards)[-1]
            history = tuple((at % hands, chance.randrange(len(machine[1]))) for at in range(12))
            behind = history
            for _ in range(60):
                unseen = unseen_steps(machine, hands, behind)
                behind = stepped(machine, hands, behind, chance.choice(unseen)) if unseen else behind
            way = some_way(machine, hands, history, behind)
            self.assertEqual(len(way), fewest_steps(machine, hands, history, behind))
            there_and_back = way + some_way(machine, hands, behind, history)
            self.same(way_holds(machine, hands, history, history, there_and_back), True)
            try:
                self.assertIn(history, all_led(machine, hands, behind, most=500))
            except TooGreat as error:
                self.assertEqual(error.most, 500)
        still = (0, ((0,),) * 6)
        one = tuple((at % 4, 0) for at in range(12))
        self.same(way_holds(still, 4, one, one, [("exchange", 5)] * 200), True)
        self.same(way_holds(still, 4, one, one, [("exchange", 5)] * 199), False)
        self.assertLess(time.monotonic() - begun, 20)
