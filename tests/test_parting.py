import itertools
import random
import time
import unittest

from ownback.errors import BadHistory, BadMachine, NoDeed, NoHand, Refused
from ownback.parting import fewest_presses, nearest, parted_at, parting, plan, plan_holds, plan_presses
from tests.trying import (
    LAMP, ODD, SMALL, Trying, as_dict, behind_press, board_of, counts_in, histories_with, presses_of, random_machines,
    tried_table,
)

CHAIN = (0, ((1, 2, 2), (2, 2, 0)))
SETTING = (0, ((0, 0, 0), (1, 2, 1)))
MACHINES = SMALL + tuple(random_machines(8, 4, 2, seed=101))
ONE, OTHER = ((1, 1), (0, 0), (0, 0)), ((1, 0), (0, 0), (0, 0))


def unlike(machine, hands, one, other):
    return counts_in(hands, one) != counts_in(hands, other) or board_of(machine, one) != board_of(machine, other)


def made(history, presses):
    """The history behind presses, None if they cannot be made."""
    for press in presses:
        if history is None:
            return None
        history = behind_press(history, press)
    return history


def parting_rows(machine, hands, one, other):
    """Of all rows of presses those with the fewest that part two histories of the same counts, ascending."""
    presses = sorted(presses_of(machine, hands))
    for many in range(len(one) + 1):
        found = []
        for row in itertools.product(presses, repeat=many):
            behind = made(one, row), made(other, row)
            if None not in behind and board_of(machine, behind[0]) != board_of(machine, behind[1]):
                found.append(row)
        if found:
            return found
    return []


def alike(machine, hands, one, other):
    return tried_table(machine, hands, one) == tried_table(machine, hands, other)


def tried_presses(machine, hands, firsts, left):
    """How many presses the best plan makes at worst, None if there is none: left is by place what stands there now."""
    worst = 0
    for board in {board_of(machine, history) for history in left.values()}:
        shown = {place: history for place, history in left.items() if board_of(machine, history) == board}
        if all(alike(machine, hands, firsts[place], firsts[min(shown)]) for place in shown):
            continue
        found = []
        for hand in range(hands):
            behind = {place: behind_press(history, ("back", hand)) for place, history in shown.items()}
            if None not in behind.values():
                presses = tried_presses(machine, hands, firsts, behind)
                found += [] if presses is None else [presses + 1]
        if not found:
            return None
        worst = max(worst, min(found))
    return worst


def deepest(rows):
    return max(1 + deepest(then[2]) if then[0] == "back" else 0 for _, then in rows)


def plan_tells(machine, hands, firsts, left, rows):
    """Whether rows are a plan, by the point's own words."""
    boards = sorted({board_of(machine, history) for history in left.values()})
    if [row[0] for row in rows] != boards:
        return False
    for board, then in rows:
        shown = {place: history for place, history in left.items() if board_of(machine, history) == board}
        if then[0] == "are":
            if list(then[1]) != sorted(shown):
                return False
            if not all(alike(machine, hands, firsts[place], firsts[min(shown)]) for place in shown):
                return False
        else:
            behind = {place: behind_press(history, ("back", then[1])) for place, history in shown.items()}
            if None in behind.values() or not plan_tells(machine, hands, firsts, behind, then[2]):
                return False
    return True


def lots_of_histories(chance, many):
    """Machines, numbers of hands, some histories of the same counts."""
    for _ in range(many):
        machine = chance.choice(MACHINES)
        counts = chance.choice(((2,), (3,), (1, 1), (2, 1), (1, 1, 1), (2, 2), (0, 2, 1)))
        some = histories_with(machine, counts)
        yield machine, len(counts), tuple(chance.choice(some) for _ in range(chance.randint(1, 4)))


class Two(unittest.TestCase, Trying):
    """Point [55]."""

    def test_nearest(self):
        for machine in MACHINES:
            for counts in ((2,), (1, 1), (2, 1), (1, 1, 1)):
                some = histories_with(machine, counts)[::3]
                for one, other in itertools.product(some, repeat=2):
                    left = as_dict(tried_table(machine, len(counts), one))
                    right = as_dict(tried_table(machine, len(counts), other))
                    apart = [vector for vector in sorted(left) if left[vector] != right[vector]]
                    most = max((sum(vector) for vector in apart), default=0)
                    told = tuple(vector for vector in apart if sum(vector) == most)
                    self.same(nearest(machine, len(counts), one, other), told)

    def test_against_all_rows_of_presses(self):
        for machine in (LAMP, CHAIN, SETTING, SMALL[3], SMALL[9]):
            for counts in ((2,), (1, 1), (2, 1), (1, 1, 1)):
                some = histories_with(machine, counts)
                for one, other in zip(some, some[1:] + some[:1] + some[5:]):
                    self.parted(machine, len(counts), one, other)
        self.parted(CHAIN, 2, ONE, OTHER)

    def parted(self, machine, hands, one, other):
        rows = parting_rows(machine, hands, one, other)
        if not rows:
            self.assertEqual(tried_table(machine, hands, one), tried_table(machine, hands, other))
            self.same(parting(machine, hands, one, other), None)
            self.same(fewest_presses(machine, hands, one, other), None)
            return
        self.same(parting(machine, hands, one, other), rows[0])
        self.same(fewest_presses(machine, hands, one, other), len(rows[0]))
        counts = counts_in(hands, one)
        for row in rows:
            self.assertTrue(all(press[0] == "back" for press in row))
            backs = [sum(press[1] == hand for press in row) for hand in range(hands)]
            vector = tuple(many - less for many, less in zip(counts, backs))
            self.assertIn(vector, nearest(machine, hands, one, other))

    def test_unlike_counts(self):
        for one, other in (((), ((0, 0),)), (((0, 0),), ((1, 0),)), (((0, 0), (1, 1)), ((0, 1),))):
            self.same(nearest(LAMP, 2, one, other), ())
            self.same(parting(LAMP, 2, one, other), ())
            self.same(fewest_presses(LAMP, 2, one, other), 0)
        self.same((nearest(LAMP, 1, (), ()), parting(LAMP, 1, (), ()), fewest_presses(LAMP, 1, (), ())), ((), None, None))
        self.same(nearest(LAMP, 1, ((0, 0), (0, 0)), ((0, 1), (0, 0))), ())
        self.same(parting(LAMP, 1, ((0, 0), (0, 0)), ((0, 0), (0, 1))), ())

    def test_several_nearest(self):
        # Any one of the hands' backs shows it, so the least hand's does.
        machine = (0, ((0, 0, 0, 3), (1, 1, 3, 3), (2, 3, 2, 3)))
        one, other = ((0, 1), (1, 1)), ((0, 2), (1, 2))
        self.same(nearest(machine, 2, one, other), ((1, 1),))
        found = [(one, other) for one in histories_with(machine, (1, 1)) for other in histories_with(machine, (1, 1))
                 if len(nearest(machine, 2, one, other)) > 1]
        self.assertTrue(found)
        for one, other in found:
            self.same(nearest(machine, 2, one, other), ((0, 1), (1, 0)))
            self.same(parting(machine, 2, one, other), (("back", 0),))

    def test_errors_and_lists(self):
        for call, more in ((nearest, ()), (parting, ()), (fewest_presses, ()), (parted_at, (None,))):
            self.fails(BadMachine, -1, call, None, None, None, None, *more)
            for value in (None, 0, 5, True, "2", (1,), NoHand(0)):
                self.fails(Refused, value, call, LAMP, value, None, None, *more)
            self.fails(BadHistory, -1, call, LAMP, 2, None, None, *more)
            self.fails(BadHistory, 1, call, LAMP, 2, ((0, 0), (2, 0)), None, *more)
            self.fails(BadHistory, 0, call, LAMP, 2, (), [(0, 0, 0)], *more)
            self.fails(BadHistory, -1, call, LAMP, 2, (), "", *more)
        for call in (nearest, parting, fewest_presses):
            self.untouched(call, CHAIN, 2, ONE, OTHER)


class LookedAt(unittest.TestCase, Trying):
    """Point [56]."""

    def test_against_the_words(self):
        chance = random.Random(61)
        for machine, hands, histories in lots_of_histories(chance, 300):
            one, other = histories[0], histories[-1]
            presses = []
            for _ in range(chance.randrange(7)):
                press = chance.choice(presses_of(machine, hands))
                if made(one, presses + [press]) is not None and made(other, presses + [press]) is not None:
                    presses.append(press)
            told = [many for many in range(len(presses) + 1)
                    if unlike(machine, hands, made(one, presses[:many]), made(other, presses[:many]))]
            self.same(parted_at(machine, hands, one, other, presses), told[0] if told else None)

    def test_parting_parts(self):
        chance = random.Random(62)
        for machine, hands, histories in lots_of_histories(chance, 200):
            presses = parting(machine, hands, histories[0], histories[-1])
            if presses is not None:
                self.same(parted_at(machine, hands, histories[0], histories[-1], presses), len(presses))

    def test_presses_behind_are_not_looked_at(self):
        self.same(parted_at(LAMP, 2, ((0, 0),), (), (None,)), 0)
        self.same(parted_at(LAMP, 1, ((0, 0), (0, 0)), ((0, 1), (0, 0)), ()), None)
        self.same(parted_at(LAMP, 1, ((0, 0),), ((0, 0),), ()), None)
        self.same(parted_at(CHAIN, 2, ONE, OTHER, [["back", 0], ["back", 0], None, ("back", 9)]), 2)
        self.same(parted_at(LAMP, 2, ((0, 0), (0, 0)), ((0, 0), (0, 1)), [()]), 0)

    def test_what_cannot_be_made(self):
        for value in ODD:
            self.fails(Refused, value, parted_at, CHAIN, 2, ONE, OTHER, (("back", 0), value))
            if not isinstance(value, (list, tuple)):
                self.fails(Refused, value, parted_at, CHAIN, 2, ONE, OTHER, value)
                self.fails(Refused, value, parted_at, CHAIN, 2, ONE, (), value)
        self.fails(Refused, ("back", 1), parted_at, CHAIN, 2, ONE, ONE, (("back", 1), ("back", 1)))
        self.fails(NoHand, 2, parted_at, CHAIN, 2, ONE, ONE, (("deed", 2, 5),))
        self.fails(NoHand, 3, parted_at, CHAIN, 2, ONE, ONE, (("back", 3),))
        self.fails(NoDeed, 2, parted_at, CHAIN, 2, ONE, ONE, (("deed", 1, 2),))

    def test_lists_are_taken_and_left(self):
        self.untouched(parted_at, CHAIN, 2, ONE, OTHER, (("back", 0), ("deed", 1, 0), ("back", 0), ("back", 1)))


class Several(unittest.TestCase, Trying):
    """Point [57]."""

    def test_against_all_orders_of_backs(self):
        chance = random.Random(63)
        none = 0
        for machine, hands, histories in lots_of_histories(chance, 400):
            left = dict(enumerate(histories))
            presses = tried_presses(machine, hands, histories, left)
            self.same(plan_presses(machine, hands, histories), presses)
            found = plan(machine, hands, histories)
            if presses is None:
                none += 1
                self.same(found, None)
            else:
                self.assertEqual(deepest(found), presses)
                self.assertTrue(plan_tells(machine, hands, histories, left, found))
                self.same(plan_holds(machine, hands, histories, found), True)
                self.untouched(plan_holds, machine, hands, histories, found)
        self.assertGreater(none, 3)

    def test_two_always_have_one(self):
        chance = random.Random(64)
        for machine, hands, histories in lots_of_histories(chance, 200):
            self.assertIsNotNone(plan(machine, hands, (histories[0], histories[-1])))
            if hands == 1:
                self.assertIsNotNone(plan(machine, hands, histories))

    def test_judged_against_the_words(self):
        chance = random.Random(65)
        held = 0
        for machine, hands, histories in lots_of_histories(chance, 300):
            left = dict(enumerate(histories))
            for _ in range(6):
                rows = self.some_rows(chance, machine, hands, histories, left, 3)
                told = plan_tells(machine, hands, histories, left, rows)
                held += told
                self.same(plan_holds(machine, hands, histories, rows), told)
        self.assertGreater(held, 100)

    def some_rows(self, chance, machine, hands, firsts, left, many):
        """Rows of the form of a plan, right or not."""
        rows = []
        for board in sorted({board_of(machine, history) for history in left.values()}):
            shown = {place: history for place, history in left.items() if board_of(machine, history) == board}
            hand = chance.randrange(hands)
            behind = {place: behind_press(history, ("back", hand)) for place, history in shown.items()}
            if many and None not in behind.values() and chance.random() < 0.7:
                rows.append((board, ("back", hand, self.some_rows(chance, machine, hands, firsts, behind, many - 1))))
            else:
                rows.append((board, ("are", tuple(sorted(shown)))))
        return tuple(rows[chance.random() < 0.05:])

    def test_what_is_alike_may_be_told_later(self):
        one = ((0, 0), (1, 1))
        for rows in ([(1, ("are", (0, 1)))], [(1, ("back", 1, [(1, ("are", [0, 1]))]))],
                     [(1, ("back", 0, [(1, ("back", 1, [(0, ("are", (0, 1)))]))]))]):
            self.same(plan_holds(LAMP, 2, (one, one), rows), True)
            self.same(plan_holds(LAMP, 2, (one, one, one), rows), False)
        self.same(plan(LAMP, 2, [one]), ((1, ("are", (0,))),))
        self.same((plan(LAMP, 4, ((), ())), plan_presses(LAMP, 4, ((), ()))), (((0, ("are", (0, 1))),), 0))

    def test_alike_as_they_are_in_the_sequence(self):
        machine, some = (0, ((1, 3, 3, 3), (2, 3, 3, 3), (3, 3, 3, 3))), (((0, 0), (1, 2)), ((0, 1), (1, 2)))
        # Behind hand 0's back they are alike, but not as they are.
        self.same(plan_holds(machine, 2, some, [(3, ("back", 0, [(3, ("are", (0, 1)))]))]), False)
        self.same(plan_holds(machine, 2, some, [(3, ("are", (0, 1)))]), False)
        told = ((3, ("back", 1, ((1, ("are", (0,))), (2, ("are", (1,)))))),)
        self.same(plan_holds(machine, 2, some, told), True)
        self.same(plan(machine, 2, some), told)
        self.same(plan(machine, 2, some + some[:1])[0][1][2], ((1, ("are", (0, 2))), (2, ("are", (1,)))))

    def test_backs_that_cannot_be_made(self):
        for hand, history in ((1, ((0, 0),)), (0, ((1, 0),)), (2, ((0, 0),))):
            for board in (0, 1):
                rows = [(1, ("back", hand, [(board, ("are", (0,)))]))]
                self.same(plan_holds(LAMP, 3, [history], rows), False)
                self.same(plan_holds(LAMP, 3, [history, history], [(1, ("back", hand, [(board, ("are", (0, 1)))]))]), False)
        self.same(plan_holds(LAMP, 3, [((0, 0),)], [(1, ("back", 0, [(0, ("are", (0,)))]))]), True)

    def test_any_value_as_a_plan(self):
        some = (((0, 0), (1, 1)), ((0, 1), (1, 0)), ((0, 1), (1, 1)))
        good = plan(CHAIN, 2, some)
        self.same(plan_holds(CHAIN, 2, some, good), True)
        are, back = good
        deeper = back[1][2]
        bad = [good[:1], good[::-1], good + good[:1], (are, None), (are, (2,)), (are, back + (0,)), (are, (2, None)),
               (are, (2, ("are", (0, 1)))), ((False, are[1]), back), ((0, ("are", (True,))), back), (None, back),
               ((0, ("are", ())), back), ((0, ("are", (2, 2))), back), ((0, ("are", 2)), back), ((0, ("are", "2")), back),
               ((0, ("are", (2,), 0)), back), ((0, ("is", (2,))), back), (are, (2, ("back", 0))), (are, (True, back[1])),
               (are, (2, ("back", 2, deeper))), (are, (2, ("back", False, deeper))), (are, (2, ("back", -1, deeper))),
               (are, (2, ("back", 0, deeper[::-1]))), (are, (2, ("back", 0, deeper, 0))), (are, (2, ("deed", 0, deeper))),
               (are, (2, ("back", 0, None))), (are, (2, ("back", "0", deeper))), ("0", back), (are, (3, back[1]))]
        for value in list(ODD) + bad:
            self.same(plan_holds(CHAIN, 2, some, value), False)
        self.same(plan_holds(CHAIN, 2, some[:1], ((2, ("back", 0, ((2, ("back", 0, ((0, ("are", (0,))),))),))),)), False)

    def test_errors_and_lists(self):
        some = (((0, 0), (1, 1)), ((0, 1), (1, 0)), ((0, 1), (1, 1)))
        for call, more in ((plan_presses, ()), (plan, ()), (plan_holds, (None,))):
            self.fails(BadMachine, 0, call, (2, ((0, 1),)), None, None, *more)
            for value in (None, 0, 5, True, "2", (1,)):
                self.fails(Refused, value, call, LAMP, value, None, *more)
            for value in [value for value in ODD if not isinstance(value, (list, tuple)) or not value]:
                self.fails(Refused, value, call, LAMP, 2, value, *more)
            self.fails(BadHistory, -1, call, LAMP, 2, (None,), *more)
            self.fails(BadHistory, 1, call, LAMP, 2, ((), ((0, 0),), ((0, 0), (0, 2)), None), *more)
            self.fails(BadHistory, -1, call, LAMP, 2, ((), ((0, 0),), "ab"), *more)
            for value in (((), ((0, 0),)), [((0, 0),), ((1, 0),)], (((0, 0),), ((0, 0),), ((0, 1), (0, 0)))):
                self.fails(Refused, value, call, LAMP, 2, value, *more)
        self.untouched(plan_presses, CHAIN, 2, some)
        self.untouched(plan, CHAIN, 2, some)

    def test_limits(self):
        chance = random.Random(66)
        begun = time.monotonic()
        for machine in random_machines(12, 8, 6, seed=67) + random_machines(12, 2, 2, seed=68):
            hands = [chance.randrange(4) for _ in range(12)]
            histories = []
            for _ in range(8):
                chance.shuffle(hands)
                histories.append(tuple((hand, chance.randrange(len(machine[1]))) for hand in hands))
            found = plan(machine, 4, histories)
            presses = plan_presses(machine, 4, histories)
            self.assertEqual(found is None, presses is None)
            if found is not None:
                self.same(plan_holds(machine, 4, histories, found), True)
            one, other = histories[:2]
            presses = parting(machine, 4, one, other)
            if presses is not None:
                self.same(parted_at(machine, 4, one, other, presses + (None,) * 28), len(presses))
            more = [("deed", at % 4, at % len(machine[1])) for at in range(40)]
            self.same(parted_at(machine, 4, one, one, more), None)
        self.assertLess(time.monotonic() - begun, 20)
