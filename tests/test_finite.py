import itertools
import random
import time
import unittest

from ownback.errors import BadHistory, BadMachine, NoHand, Refused, TooGreat
from ownback.finite import (
    check_words, corner_boards, corner_pairs, finite_machine, parting_history, situations, state_behind,
)
from ownback.normal import is_normal
from tests.trying import LAMP, ODD, SMALL, Trying, all_rows, counts_in, first_deeds, histories_with, random_machines

TOGGLE = SMALL[1]
MACHINES = SMALL + tuple(random_machines(8, 3, 2, seed=91))
FINITE = (2, 0, ((((0, 0), 0), ((1, 0), 1)), (((1, 0), 1),)))


def lots_of(hands):
    return [lot for size in range(hands + 1) for lot in itertools.combinations(range(hands), size)]


def vectors_with(counts, lot):
    return itertools.product(*[[many] if hand in lot else range(many + 1) for hand, many in enumerate(counts)])


def board_behind(machine, history, vector):
    board = machine[0]
    for _, deed in first_deeds(history, vector):
        board = machine[1][deed][board]
    return board


def tried_boards(machine, hands, history, lot):
    counts = counts_in(hands, history)
    return tuple(sorted({board_behind(machine, history, vector) for vector in vectors_with(counts, lot)}))


def tried_pairs(machine, hands, history, hand, lot):
    counts = counts_in(hands, history)
    found = set()
    for vector in vectors_with(counts, lot + (hand,)):
        without = tuple(many - (place == hand) for place, many in enumerate(vector))
        found.add((board_behind(machine, history, without), board_behind(machine, history, vector)))
    return tuple(sorted(found))


def is_open(history, hand):
    """Whether the hand is other than 0 and behind its last deed no lesser hand's stands."""
    hands = [letter[0] for letter in history]
    return hand > 0 and hand in hands and all(other >= hand for other in hands[::-1][:hands[::-1].index(hand)])


def tried_situation(machine, hands, history):
    boards = tuple(tried_boards(machine, hands, history, lot) for lot in lots_of(hands)[1:])
    pairs = tuple(tuple(tried_pairs(machine, hands, history, hand, lot) for lot in lots_of(hands))
                  if is_open(history, hand) else None for hand in range(hands))
    return boards, pairs


def letters_of(machine, hands):
    return [(hand, deed) for hand in range(hands) for deed in range(len(machine[1]))]


def tried_situations(machine, hands):
    """The point's own words: the first normal history of each situation gone on with, breadth first."""
    names, come, steps = {tried_situation(machine, hands, ()): 0}, [()], []
    for history in come:
        row = []
        for letter in letters_of(machine, hands):
            behind = history + (letter,)
            if is_normal(machine, hands, behind):
                situation = tried_situation(machine, hands, behind)
                if situation not in names:
                    names[situation] = len(names)
                    come.append(behind)
                row.append((letter, names[situation]))
        steps.append(tuple(row))
    return len(steps), 0, tuple(steps)


def led(words, history):
    state = words[1]
    for letter in history:
        state = dict(words[2][state]).get(letter)
        if state is None:
            return None
    return state


def hands_to_try(machine):
    """Numbers of hands with which there are not too many situations."""
    return (1, 2, 3) if len(machine[1][0]) < 3 else (1, 2)


def are_letters(value):
    """Whether a value is a row of pairs of numbers."""
    pairs = isinstance(value, (list, tuple)) and all(isinstance(item, (list, tuple)) and len(item) == 2 for item in value)
    return pairs and all(type(part) is int and part >= 0 for item in value for part in item)


def goes_on(words, one, row):
    return led((words[0], one, words[2]), row) is not None


def random_words(chance, most, letters):
    many = chance.randint(1, most)
    steps = []
    for _ in range(many):
        ahead = sorted(chance.sample(letters, chance.randint(0, len(letters))))
        steps.append(tuple((letter, chance.randrange(many)) for letter in ahead))
    return many, chance.randrange(many), tuple(steps)


class Corners(unittest.TestCase, Trying):
    """Point [36]."""

    def test_against_all_beginnings(self):
        chance = random.Random(12)
        for machine in MACHINES:
            for hands in (1, 2, 3, 4):
                for _ in range(6):
                    history = tuple((chance.randrange(hands), chance.randrange(len(machine[1])))
                                    for _ in range(chance.randrange(6)))
                    for lot in lots_of(hands):
                        told = tried_boards(machine, hands, history, lot)
                        self.same(corner_boards(machine, hands, history, lot), told)
                        for hand in range(hands):
                            if counts_in(hands, history)[hand] == 0:
                                self.fails(Refused, hand, corner_pairs, machine, hands, history, hand, None)
                            else:
                                told = tried_pairs(machine, hands, history, hand, lot)
                                self.same(corner_pairs(machine, hands, history, hand, lot), told)

    def test_behind_one_deed_more(self):
        for machine in MACHINES[:12]:
            for history in histories_with(machine, (1, 1))[::2]:
                for hand, deed in letters_of(machine, 2):
                    behind, moves = history + ((hand, deed),), machine[1][deed]
                    for lot in lots_of(2)[1:]:
                        with_hand = sorted(set(lot) | {hand})
                        grown = {moves[board] for board in corner_boards(machine, 2, history, with_hand)}
                        grown |= set() if hand in lot else set(corner_boards(machine, 2, history, lot))
                        self.same(corner_boards(machine, 2, behind, lot), tuple(sorted(grown)))
                        own = [(board, moves[board]) for board in corner_boards(machine, 2, history, with_hand)]
                        self.same(corner_pairs(machine, 2, behind, hand, lot), tuple(sorted(own)))

    def test_any_value_as_a_lot(self):
        history = ((0, 0), (1, 1))
        for value in [value for value in ODD if value not in ((), [])] + [
                (1, 0), (0, 0), (2,), (-1,), (True,), (0, True), "01", (0, "1"), ((0,),), (0, 1, 2)]:
            self.fails(Refused, value, corner_boards, LAMP, 2, history, value)
            self.fails(Refused, value, corner_pairs, LAMP, 2, history, 1, value)
        for value in [value for value in ODD if value is not True and value is not False] + [2, 1.5, True, False]:
            self.fails(Refused, value, corner_pairs, LAMP, 2, history, value, None)

    def test_errors_and_lists(self):
        for call, more in ((corner_boards, (None,)), (corner_pairs, (None, None))):
            self.fails(BadMachine, -1, call, None, None, None, *more)
            self.fails(Refused, 5, call, LAMP, 5, None, *more)
            self.fails(BadHistory, 1, call, LAMP, 2, ((0, 0), 0), *more)
        self.fails(Refused, 0, corner_pairs, LAMP, 2, ((1, 0),), 0, None)
        self.untouched(corner_boards, LAMP, 2, ((0, 0), (1, 1)), (0, 1))
        self.untouched(corner_pairs, LAMP, 2, ((0, 0), (1, 1)), 1, (0,))

    def test_limits(self):
        machine = random_machines(9, 8, 6, seed=13)[-1]
        begun = time.monotonic()
        history = tuple((at % 4, at % len(machine[1])) for at in range(12))
        for lot in lots_of(4):
            self.same(corner_boards(machine, 4, history, lot), tried_boards(machine, 4, history, lot))
            self.same(corner_pairs(machine, 4, history, 2, lot), tried_pairs(machine, 4, history, 2, lot))
        self.assertLess(time.monotonic() - begun, 10)


class Situations(unittest.TestCase, Trying):
    """Point [37]."""

    def test_against_the_words(self):
        for machine in MACHINES:
            for hands in (1, 2):
                self.same(situations(machine, hands, most=999), tried_situations(machine, hands))
        for machine in (TOGGLE, SMALL[0], (0, ((1, 1),)), (0, ((1, 2, 2),))):
            for hands in (3, 4):
                self.same(situations(machine, hands, most=999), tried_situations(machine, hands))

    def test_just_the_normal_histories_lead_on(self):
        for machine, hands, many in ((LAMP, 3, 4), (SMALL[4], 3, 4), (SMALL[7], 2, 5), (SMALL[3], 3, 3), (TOGGLE, 4, 4)):
            found = situations(machine, hands, most=2000)
            for history in all_rows(letters_of(machine, hands), many):
                self.assertEqual(led(found, history) is not None, is_normal(machine, hands, history))

    def test_histories_of_one_situation_are_led_to_one_state(self):
        for machine, hands in ((LAMP, 3), (SMALL[6], 2), (SMALL[5], 3)):
            names, found = {}, situations(machine, hands, most=2000)
            for history in all_rows(letters_of(machine, hands), 4):
                state = led(found, history)
                if state is not None:
                    told = tried_situation(machine, hands, history)
                    self.assertEqual(names.setdefault(state, told), told)
            self.assertEqual(len(set(names.values())), len(names))

    def test_just_as_many_as_most(self):
        for machine, hands in ((TOGGLE, 2), (LAMP, 2), (LAMP, 3), (SMALL[6], 2), (SMALL[0], 1)):
            many = situations(machine, hands, most=2000)[0]
            for call in (situations, finite_machine):
                self.same(call(machine, hands, most=many), call(machine, hands, most=2000))
                for most in {1, many // 2, many - 1} - {0, many}:
                    self.fails(TooGreat, most, call, machine, hands, most=most)

    def test_errors_and_lists(self):
        for call in (situations, finite_machine):
            self.fails(BadMachine, -1, call, (0,), None, most=9)
            for value in (None, 0, 5, True, "2", (1,), NoHand(0)):
                self.fails(Refused, value, call, LAMP, value, most=9)
            self.untouched(call, LAMP, 2, most=99)

    def test_limits(self):
        begun = time.monotonic()
        chance = random.Random(14)
        for boards, deeds, hands in ((4, 2, 2), (3, 2, 3), (4, 1, 3)) * 8:
            maps = tuple(tuple(chance.randrange(boards) for _ in range(boards)) for _ in range(deeds))
            try:
                many, _, steps = situations((0, maps), hands, most=2000)
                self.assertEqual(len(steps), many)
                self.assertLessEqual(finite_machine((0, maps), hands, most=2000)[0], many)
            except TooGreat as error:
                self.assertEqual(error.most, 2000)
        self.assertLess(time.monotonic() - begun, 20)


class Words(unittest.TestCase, Trying):
    """Point [38]."""

    def test_words_are_just_the_normal_histories(self):
        for machine in MACHINES:
            for hands in hands_to_try(machine):
                letters = letters_of(machine, hands)
                rows = [row for row in all_rows(letters, 5) if len(letters) ** len(row) < 700]
                finite = finite_machine(machine, hands, most=2000)
                for history in rows:
                    state = state_behind(finite, history)
                    self.same(state, led(finite, history))
                    self.assertEqual(state is not None, is_normal(machine, hands, history))

    def test_numbered_as_they_are_come_to(self):
        for machine in MACHINES:
            for hands in (1, 2):
                many, first, steps = finite_machine(machine, hands, most=999)
                come = [first]
                for state in come:
                    come += [behind for behind in dict.fromkeys(to for _, to in steps[state]) if behind not in come]
                self.assertEqual((first, come), (0, list(range(many))))
                self.same(check_words((many, first, steps)), (many, first, steps))

    def test_states_that_go_on_alike_are_one(self):
        for machine in MACHINES:
            for hands in (1, 2):
                found, finite = situations(machine, hands, most=999), finite_machine(machine, hands, most=999)
                joined, come = {0: 0}, [0]
                for state in come:
                    self.assertEqual([letter for letter, _ in found[2][state]],
                                     [letter for letter, _ in finite[2][joined[state]]])
                    for (_, behind), (_, to) in zip(found[2][state], finite[2][joined[state]]):
                        come += [] if behind in joined else [behind]
                        self.assertEqual(joined.setdefault(behind, to), to)

    def test_any_value_as_words(self):
        good = [3, 2, [[], [((0, 0), 2), ([0, 7], 0)], (((10 ** 20, 0), 1),)]]
        told = (3, 2, ((), (((0, 0), 2), ((0, 7), 0)), (((10 ** 20, 0), 1),)))
        self.same(check_words(good), told)
        self.same(check_words((1, 0, [()])), (1, 0, ((),)))
        self.same(check_words((2000, 1999, [[]] * 2000))[:2], (2000, 1999))
        step = ((0, 0), 0)
        bad = [(0, 0, ()), (2001, 0, ((),) * 2001), (1, 1, ((),)), (1, -1, ((),)), (True, 0, ((),)), (1, False, ((),)),
               (1, 0, ()), (1, 0, ((), ())), (1, 0, None), (1, 0, (None,)), (1, 0, ((step, step),)), (1, 0), (1, 0, ((),), 0),
               (1, 0, (((0, 0),),)), (1, 0, ((((0,), 0),),)), (1, 0, ((((0, 0, 0), 0),),)), (1, 0, ((((0, -1), 0),),)),
               (1, 0, ((((0, True), 0),),)), (1, 0, ((((0, 0), 1),),)), (1, 0, ((((0, 0), True),),)), (1, 0, ("ab",)),
               (2, 0, ((((0, 1), 0), ((0, 0), 0)), ())), (2, 0, ((((0, 0), 0), ([0, 0], 1)), ())), (1, 0, ((None,),)),
               (1, 0, (((None, 0),),)), (1, 0, ((((0, "0"), 0),),)), (1, 0, ((((0, 0), 0, 0),),)), (1, 0, (("ab",),))]
        for value in list(ODD) + bad:
            self.fails(Refused, value, check_words, value)
            self.fails(Refused, value, state_behind, value, None)
            self.fails(Refused, value, parting_history, value, None, None)
        before = repr(good)
        self.same(state_behind(good, [[10 ** 20, 0], (0, 7)]), 0)
        self.same(state_behind(good, ()), 2)
        self.assertEqual(repr(good), before)

    def test_any_value_as_a_row_of_letters(self):
        for value in [value for value in ODD if not are_letters(value)] + [
                ((0, 0), (0,)), ((0, 0), 0), ((0, -1),), ((0, True),), (("0", 0),), ((9, 9), None), ("ab",)]:
            self.fails(Refused, value, state_behind, FINITE, value)
        self.same(state_behind(FINITE, [[9, 9], [10 ** 30, 0]]), None)
        self.same(state_behind(FINITE, ((0, 0), (1, 0), (0, 0), (1, 0))), None)
        self.untouched(state_behind, FINITE, ((0, 0), (1, 0)))

    def test_limits(self):
        begun = time.monotonic()
        row = tuple((at % 2, 0) for at in range(400))
        self.same(state_behind((2000, 0, ((((0, 0), 1), ((1, 0), 1)),) * 2000), row), 1)
        self.same(state_behind(FINITE, ((0, 0),) * 200 + ((1, 0),) * 200), 1)
        self.assertLess(time.monotonic() - begun, 5)


class Parting(unittest.TestCase, Trying):
    """Point [39]."""

    def test_against_all_rows(self):
        chance = random.Random(15)
        letters = [(0, 0), (0, 1), (1, 0)]
        for _ in range(60):
            words = random_words(chance, 5, letters)
            rows = list(all_rows(letters, 4))
            for one, other in itertools.product(range(words[0]), repeat=2):
                apart = [row for row in rows if goes_on(words, one, row) != goes_on(words, other, row)]
                # Of five states those that are apart at all are so by four letters.
                self.same(parting_history(words, one, other), apart[0] if apart else None)

    def test_each_two_states_of_a_finite_machine(self):
        for machine in MACHINES:
            for hands in hands_to_try(machine):
                finite = finite_machine(machine, hands, most=2000)
                for one, other in itertools.product(range(finite[0]), repeat=2):
                    row = parting_history(finite, one, other)
                    self.assertEqual(row is None, one == other)
                    if one != other:
                        self.assertNotEqual(goes_on(finite, one, row), goes_on(finite, other, row))

    def test_any_value_as_a_state(self):
        for value in [value for value in ODD if value not in (0, 1) or isinstance(value, bool)] + [2]:
            self.fails(Refused, value, parting_history, FINITE, value, None)
            self.fails(Refused, value, parting_history, FINITE, 1, value)

    def test_limits_and_lists(self):
        self.untouched(parting_history, FINITE, 0, 1)
        begun = time.monotonic()
        chain = tuple((((0, 0), state + 1),) for state in range(1999)) + ((),)
        self.same(parting_history((2000, 0, chain), 0, 1), ((0, 0),) * 1999)
        ring = tuple((((0, 0), (state + 1) % 2000), ((1, 0), state * 7 % 2000)) for state in range(2000))
        self.same(parting_history((2000, 0, ring), 3, 1000), None)
        self.assertLess(time.monotonic() - begun, 5)
