import itertools
import random
import time
import unittest

from ownback.errors import BadHistory, BadMachine, NoDeed, NoHand, Refused
from ownback.folding import foldable, folded, settled_alike, settled_pressed, window
from ownback.normal import normal_of
from tests.trying import (
    LAMP, ODD, SMALL, Trying, all_rows, as_dict, behind_press, board_of, by_table, counts_in, first_deeds,
    histories_with, lead, presses_of, random_machines, tried_table, within,
)

MACHINES = SMALL + tuple(random_machines(8, 4, 3, seed=91))
ONE = ((1, 1), (0, 0), (0, 1))


def vectors_up_to(counts):
    return list(itertools.product(*[range(many + 1) for many in counts]))


def less_by(counts, gone):
    return tuple(many - less for many, less in zip(counts, gone))


def some_histories(machine, hands, chance, many, least=0, most=5):
    return [tuple((chance.randrange(hands), chance.randrange(len(machine[1]))) for _ in range(chance.randint(least, most)))
            for _ in range(many)]


def cases():
    """Histories with settled deeds."""
    chance = random.Random(92)
    for machine in MACHINES:
        for hands in (1, 2, 3):
            for history in some_histories(machine, hands, chance, 5):
                settled = tuple(chance.randint(0, many) for many in counts_in(hands, history))
                yield machine, hands, history, settled


CASES = list(cases())


def tried_window(machine, hands, history, settled):
    """By its own words: each beginning with all settled deeds, played from the start on."""
    left = less_by(counts_in(hands, history), settled)
    more = [tuple(gone + number for gone, number in zip(settled, vector)) for vector in vectors_up_to(left)]
    return left, tuple(board_of(machine, first_deeds(history, vector)) for vector in more)


def behind_settled(hands, history, settled, press):
    """The history behind a press, None if it cannot be made."""
    if press[0] == "back" and counts_in(hands, history)[press[1]] <= settled[press[1]]:
        return None
    return behind_press(history, press)


def shown_alike(machine, hands, one, other, settled, others, many):
    """Whether no row of at most so many presses shows two histories unlike, with nothing but trying."""
    pairs = {(one, other)}
    for _ in range(many + 1):
        if any(counts_in(hands, left) != counts_in(hands, right) or board_of(machine, left) != board_of(machine, right)
               for left, right in pairs):
            return False
        behind = set()
        for left, right in pairs:
            for press in presses_of(machine, hands):
                led = behind_settled(hands, left, settled, press), behind_settled(hands, right, others, press)
                if None not in led:
                    behind.add(led)
        pairs = behind
    return True


class Settled(unittest.TestCase, Trying):
    """Point [58]."""

    def test_presses(self):
        for machine, hands, history, settled in CASES:
            for press in presses_of(machine, hands):
                behind = behind_settled(hands, history, settled, press)
                if behind is None:
                    self.fails(Refused, press, settled_pressed, machine, hands, history, settled, press)
                else:
                    self.same(settled_pressed(machine, hands, history, settled, press), behind)

    def test_backs_at_the_edge(self):
        self.same(settled_pressed(LAMP, 2, ONE, (1, 0), ("back", 0)), ((1, 1), (0, 0)))
        self.fails(Refused, ("back", 0), settled_pressed, LAMP, 2, ONE, (2, 0), ("back", 0))
        self.fails(Refused, ["back", 1], settled_pressed, LAMP, 2, ONE, [0, 1], ["back", 1])
        self.fails(Refused, ("back", 2), settled_pressed, LAMP, 3, ONE, (0, 0, 0), ("back", 2))
        self.same(settled_pressed(LAMP, 2, ONE, (2, 1), ["deed", 1, 0]), ONE + ((1, 0),))

    def test_windows(self):
        for machine, hands, history, settled in CASES:
            self.same(window(machine, hands, history, settled), tried_window(machine, hands, history, settled))
            self.untouched(window, machine, hands, history, settled)
        self.same(window(LAMP, 2, (), (0, 0)), ((0, 0), (0,)))
        self.same(window(LAMP, 2, ONE, (0, 0)), tried_table(LAMP, 2, ONE))
        self.same(window(LAMP, 2, ONE, (2, 1)), ((0, 0), (board_of(LAMP, ONE),)))

    def test_alike_exactly_if_no_presses_tell(self):
        for machine in SMALL:
            for counts in ((2,), (1, 1), (2, 1), (0, 2)):
                self.alike_by_presses(machine, counts)

    def alike_by_presses(self, machine, counts):
        hands = len(counts)
        for settled in vectors_up_to(counts):
            histories = histories_with(machine, counts)
            many = sum(counts) - sum(settled) + 1
            for one, other in zip(histories[::2], histories[::-1]):
                shown = shown_alike(machine, hands, one, other, settled, settled, many)
                self.same(settled_alike(machine, hands, one, other, settled), shown)

    def test_unlike_numbers(self):
        self.same(settled_alike(LAMP, 2, ((0, 1), (1, 1)), ((0, 1), (1, 1), (1, 1)), (1, 1)), False)
        self.same(settled_alike(LAMP, 2, ((0, 1), (0, 1)), ((0, 1), (1, 1)), (1, 0)), False)

    def test_any_value_as_settled(self):
        for value in ODD + ((0,), (0, 0, 0), (3, 0), (0, 2), [1, -1], (True, 0), ((0, 0),)):
            if repr(value) not in ("(0, 0)", "[0, 0]"):
                for call, more in ((settled_pressed, (None,)), (window, ()), (foldable, ()), (folded, ())):
                    self.fails(Refused, value, call, LAMP, 2, ONE, value, *more)
                self.fails(Refused, value, settled_alike, LAMP, 2, ONE, ONE, value)
        self.fails(Refused, (1, 0), settled_alike, LAMP, 2, ONE, ((0, 0),) * 0, (1, 0))
        self.fails(Refused, [1, 0], settled_alike, LAMP, 2, ((1, 1),), ONE, [1, 0])

    def test_order_of_errors(self):
        for call, more in ((settled_pressed, (None,)), (window, ()), (foldable, ()), (folded, ())):
            self.fails(BadMachine, -1, call, 0, 9, 9, 9, *more)
            self.fails(BadMachine, 0, call, (2, ((0, 1),)), 9, 9, 9, *more)
            for hands in (0, 5, True, None, "2"):
                self.fails(Refused, hands, call, LAMP, hands, 9, 9, *more)
            self.fails(BadHistory, -1, call, LAMP, 2, 9, 9, *more)
            self.fails(BadHistory, 1, call, LAMP, 2, ((0, 0), (2, 0)), 9, *more)
            self.fails(Refused, 9, call, LAMP, 2, ONE, 9, *more)
        self.fails(BadMachine, -1, settled_alike, 0, 9, 9, 9, 9)
        self.fails(Refused, 9, settled_alike, LAMP, 9, 9, 9, 9)
        self.fails(BadHistory, 0, settled_alike, LAMP, 2, ((0, 2),), 9, 9)
        self.fails(BadHistory, -1, settled_alike, LAMP, 2, ONE, 9, 9)
        self.fails(Refused, (3, 0), settled_alike, LAMP, 2, ONE, ((0, 0),) * 3, (3, 0))

    def test_order_of_errors_of_a_press(self):
        for value in ODD + (("back", 4), ("deed", 0, 6), ("again", 0)):
            self.fails(Refused, value, settled_pressed, LAMP, 2, ONE, (2, 1), value)
        self.fails(NoHand, 2, settled_pressed, LAMP, 2, ONE, (2, 1), ("deed", 2, 5))
        self.fails(NoHand, 3, settled_pressed, LAMP, 2, ONE, (2, 1), ["back", 3])
        self.fails(NoDeed, 2, settled_pressed, LAMP, 2, ONE, (2, 1), ("deed", 1, 2))

    def test_lists_are_taken_and_left(self):
        self.untouched(settled_pressed, LAMP, 2, ONE, (1, 1), ("back", 0))
        self.untouched(settled_alike, LAMP, 2, ONE, ONE[::-1], (1, 1))
        self.untouched(foldable, LAMP, 2, ONE, (1, 1))
        self.untouched(folded, LAMP, 2, ONE, (1, 1))


def tried_foldable(machine, hands, history, settled):
    """By its own words: windows beside the tables of all histories."""
    found = []
    for vector in vectors_up_to(settled):
        left, shown = tried_window(machine, hands, history, vector)
        if (left, shown) in tables_from(machine, shown[0], left):
            found.append(vector)
    return tuple(found)


KNOWN = {}


def tables_from(machine, board, counts):
    key = (board, machine[1], counts)
    if key not in KNOWN:
        KNOWN[key] = set(by_table((board, machine[1]), counts))
    return KNOWN[key]


class Folded(unittest.TestCase, Trying):
    """Point [59]."""

    def test_against_all_histories(self):
        for machine, hands, history, settled in CASES:
            if len(history) < 5:
                self.same(foldable(machine, hands, history, settled), tried_foldable(machine, hands, history, settled))
        for counts in ((3,), (2, 1), (1, 2), (1, 1, 1)):
            for machine in (LAMP, SMALL[6], SMALL[7], SMALL[3]):
                for history in histories_with(machine, counts)[::3]:
                    self.same(foldable(machine, len(counts), history, counts),
                              tried_foldable(machine, len(counts), history, counts))

    def test_what_has_gone(self):
        for machine, hands, history, settled in CASES:
            found = foldable(machine, hands, history, settled)
            most = max(sum(vector) for vector in found)
            gone = min(vector for vector in found if sum(vector) == most)
            led, left, fewer = folded(machine, hands, history, settled)
            board = board_of(machine, first_deeds(history, gone))
            self.same(led, (board, machine[1]))
            self.same(fewer, less_by(settled, gone))
            self.same(tried_table(led, hands, left), tried_window(machine, hands, history, gone))
            self.same(left, normal_of(led, hands, left))
            self.same(foldable(led, hands, left, fewer), ((0,) * hands,))
            self.same(folded(led, hands, left, fewer), (led, left, fewer))
            if hands == 2:
                self.assertTrue(all(within(vector, gone) for vector in found))

    def test_behind_all_presses_both_show_the_same(self):
        for machine, hands, history, settled in CASES:
            if len(history) < 5:
                led, left, fewer = folded(machine, hands, history, settled)
                for presses in all_rows(presses_of(machine, hands), 2 if hands > 1 else 3):
                    self.shows_the_same((machine, history, settled), (led, left, fewer), hands, presses)

    def test_long_rows_of_presses(self):
        chance = random.Random(93)
        for machine, hands, history, settled in CASES:
            one, other = (machine, history, settled), folded(machine, hands, history, settled)
            for _ in range(3):
                presses = [chance.choice(presses_of(machine, hands) + [("back", hand) for hand in range(hands)] * 2)
                           for _ in range(12)]
                self.shows_the_same(one, other, hands, presses)

    def shows_the_same(self, one, other, hands, presses):
        first, second = one[1], other[1]
        for press in presses:
            led = behind_settled(hands, first, one[2], press), behind_settled(hands, second, other[2], press)
            self.assertEqual(led[0] is None, led[1] is None)
            if led[0] is not None:
                first, second = led
                self.assertEqual(board_of(one[0], first), lead(other[0], other[0][0], [deed for _, deed in second]))

    def test_settled_deeds_ahead_of_all_others_fold(self):
        chance = random.Random(94)
        for machine, hands, history, settled in CASES:
            ahead = first_deeds(history, settled)
            behind = [(chance.randrange(hands), chance.randrange(len(machine[1]))) for _ in range(3)]
            self.assertIn(settled, foldable(machine, hands, ahead + tuple(behind), settled))

    def test_the_least_of_several_goes(self):
        machine, history = (0, ((1, 1, 0), (2, 0, 1))), ((0, 1), (1, 0), (2, 1))
        self.same(foldable(machine, 3, history, (1, 0, 1)), ((0, 0, 0), (0, 0, 1), (1, 0, 0)))
        self.same(folded(machine, 3, history, (1, 0, 1))[2], (1, 0, 0))

    def test_edges(self):
        self.same(foldable(LAMP, 2, (), [0, 0]), ((0, 0),))
        self.same(folded(LAMP, 2, (), [0, 0]), (LAMP, (), (0, 0)))
        self.same(folded(LAMP, 1, ((0, 0), (0, 0), (0, 1)), (3,)), ((1, LAMP[1]), (), (0,)))
        self.same(folded(LAMP, 2, ((0, 1), (1, 1)), (0, 0)), (LAMP, ((0, 0), (1, 1)), (0, 0)))

    def test_limits(self):
        chance = random.Random(95)
        begun = time.monotonic()
        for hands, many in ((4, 5), (3, 5), (2, 7), (1, 7)):
            for machine in random_machines(8, 8, 4, seed=96 + hands):
                history = some_histories(machine, hands, chance, 1, many, many)[0]
                counts = counts_in(hands, history)
                settled = tuple(many // 2 for many in counts)
                behind = history
                for _ in range(6):
                    behind = settled_pressed(machine, hands, behind, settled,
                                             ("deed", chance.randrange(hands), chance.randrange(len(machine[1]))))
                for seen in (history, behind):
                    self.same(window(machine, hands, seen, settled), tried_window(machine, hands, seen, settled))
                    led, left, fewer = folded(machine, hands, seen, settled)
                    gone = less_by(settled, fewer)
                    self.assertEqual(as_dict(tried_table(led, hands, left)),
                                     as_dict(tried_window(machine, hands, seen, gone)))
                    self.same(settled_alike(machine, hands, seen, seen, settled), True)
        self.assertLess(time.monotonic() - begun, 20)
