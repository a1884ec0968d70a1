import itertools
import math
import random
import time
import unittest

from ownback.errors import NoHand, Refused
from ownback.finite import check_words, finite_machine
from ownback.growth import (
    bits_in, come_to, counted, growth, limited, loops, period, rate_holds, rate_paper, rate_parts,
)
from tests.trying import LAMP, ODD, SMALL, Trying, all_rows

LIGHT = (2, 0, ((((0, 0), 0), ((1, 0), 1)), (((1, 0), 1),)))
GOLD = (2, 0, ((((0, 0), 0), ((1, 0), 1)), (((0, 0), 0),)))
TURN = (3, 0, ((((0, 0), 1),), (((0, 1), 2), ((1, 0), 0)), ()))
NOTHING = (1, 0, ((),))
LETTERS = ((0, 0), (0, 1), (1, 0), (2, 5))
NO_NUMBERS = [value for value in ODD if type(value) is not int or value < 0]


def random_words(chance, most, letters, fewest=0):
    many = chance.randint(1, most)
    steps = []
    for _ in range(many):
        ahead = sorted(chance.sample(letters, min(len(letters), chance.choice((fewest, 1, 1, 2)))))
        steps.append(tuple((letter, chance.randrange(many)) for letter in ahead))
    return many, chance.randrange(many), tuple(steps)


def tried_words():
    chance = random.Random(31)
    return [LIGHT, GOLD, TURN, NOTHING] + [random_words(chance, 6, LETTERS) for _ in range(150)]


TRIED = tried_words()


def led(words, row):
    state = words[1]
    for letter in row:
        state = dict(words[2][state]).get(letter)
        if state is None:
            return None
    return state


def words_to(words, many):
    """All words with at most so many letters, with the states to which they lead."""
    found, rows = [], [((), words[1])]
    for _ in range(many + 1):
        found += rows
        rows = [(row + (letter,), behind) for row, state in rows for letter, behind in words[2][state]]
    return found


def ahead_of(words):
    return [[behind for _, behind in row] for row in words[2]]


def reach(words, state):
    """The states to which one letter or more lead."""
    ahead, found, come = ahead_of(words), set(), [state]
    for at in come:
        for behind in ahead[at]:
            if behind not in found:
                found.add(behind)
                come.append(behind)
    return found


def tried_come(words):
    return tuple(sorted(reach(words, words[1]) | {words[1]}))


def tried_loops(words):
    come = tried_come(words)
    reached = {state: reach(words, state) for state in come}
    return tuple(sorted({tuple(other for other in come if other in reached[state] and state in reached[other])
                         for state in come if state in reached[state]}))


def tried_period(words):
    many = 1
    for lot in tried_loops(words):
        if any(sum(behind in lot for behind in ahead_of(words)[state]) > 1 for state in lot):
            return None
        many = math.lcm(many, len(lot))
    return many


def numbers(words, last):
    """How many words have 0, 1, .. letters."""
    row, found = {words[1]: 1}, [1]
    for _ in range(last):
        longer = {}
        for state, many in row.items():
            for behind in ahead_of(words)[state]:
                longer[behind] = longer.get(behind, 0) + many
        row = longer
        found.append(sum(row.values()))
    return found


def degree(row):
    """Of which degree the polynomial is whose values at 0, 1, .. these are, -1 for noughts alone."""
    row, found = list(row), -1
    while any(row):
        row, found = [after - ahead for ahead, after in zip(row, row[1:])], found + 1
    return found


def tried_growth(words):
    turn, many = tried_period(words), words[0]
    if turn is None:
        return ("multiplied",)
    found = numbers(words, many + turn * (many + 4))
    degrees = [degree(found[start::turn]) for start in range(many, many + turn)]
    if max(degrees) > 0:
        return ("power", max(degrees))
    return ("bounded", max(found))


def tried_holds(words, top, bottom, value):
    kind, weights = value
    come, ahead = tried_come(words), ahead_of(words)
    led_to = {state: sum(weights[behind] for behind in ahead[state]) for state in come}
    if kind == "below":
        return all(weights[state] >= 1 and bottom * led_to[state] < top * weights[state] for state in come)
    some = any(weights[state] >= 1 for state in come)
    return some and all(bottom * led_to[state] >= top * weights[state] for state in come)


def above(words, top, bottom):
    """Whether words grow at least so fast: by the numbers of long ones, where it is not a near thing."""
    found = numbers(words, 400)
    rate = (found[-1] ** (1 / 400)) if found[-1] < 10 ** 300 else math.exp(math.log(found[-1]) / 400)
    return None if abs(rate - top / bottom) < 0.1 else rate > top / bottom


class Words(unittest.TestCase, Trying):
    """Point [44]."""

    def test_counted(self):
        for words in TRIED:
            row = [len(word) for word, _ in words_to(words, 5)]
            self.same(counted(words, 5), tuple(row.count(size) for size in range(6)))
            self.same(counted(words, 0), (1,))

    def test_against_all_rows_of_letters(self):
        for words in TRIED[:60]:
            rows = [row for row in all_rows(LETTERS, 4) if led(words, row) is not None]
            self.same(counted(words, 4), tuple(sum(len(row) == size for row in rows) for size in range(5)))

    def test_states_and_loops(self):
        for words in TRIED:
            self.same(come_to(words), tried_come(words))
            self.same(loops(words), tried_loops(words))
            self.same(period(words), tried_period(words))

    def test_told_ones(self):
        self.same((come_to(NOTHING), loops(NOTHING), period(NOTHING), counted(NOTHING, 2)), ((0,), (), 1, (1, 0, 0)))
        twice = (1, 0, ((((0, 0), 0), ((0, 1), 0)),))
        self.same((loops(twice), period(twice)), (((0,),), None))
        two = (5, 0, ((((0, 0), 1), ((1, 0), 3)), (((0, 0), 2),), (((0, 0), 1),), (((0, 0), 3),), (((0, 0), 4),)))
        self.same((come_to(two), loops(two), period(two)), ((0, 1, 2, 3), ((1, 2), (3,)), 2))

    def test_any_value(self):
        for call, more in ((counted, (None,)), (come_to, ()), (loops, ()), (period, ()), (growth, ()), (limited, (0,)),
                           (rate_paper, (-1, 0)), (rate_holds, (-1, 0, None)), (rate_parts, (0,)), (bits_in, (0,))):
            for value in list(ODD) + [LAMP, (1, 1, ((),)), (0, 0, ()), (1, True, ((),)), (1, 0, ((((0, 0), 1),),))]:
                self.fails(Refused, value, call, value, *more)
        for value in NO_NUMBERS:
            self.fails(Refused, value, counted, LIGHT, value)

    def test_lists_are_taken_and_left(self):
        self.untouched(counted, GOLD, 9)
        for call in (come_to, loops, period, growth):
            self.untouched(call, TURN)


class Growth(unittest.TestCase, Trying):
    """Point [45]."""

    def test_against_the_numbers_of_words(self):
        for words in TRIED:
            self.same(growth(words), tried_growth(words))

    def test_of_finite_machines(self):
        for machine in SMALL:
            for hands in (1, 2):
                words = finite_machine(machine, hands, most=999)
                self.same(growth(words), tried_growth(words))

    def test_multiplied_exactly_if_above_one(self):
        for words in TRIED:
            many = words[0]
            told = rate_paper(words, 4 * many + 1, 4 * many)[0]
            self.assertEqual(growth(words) == ("multiplied",), told == "reached")

    def test_most_words_come_late(self):
        # Loops of 2, 3 and 5 states, two words more where 1, 2, 2 steps were done in them: together first behind 17.
        steps = [[]]
        for size, peak in ((2, 1), (3, 2), (5, 2)):
            begin = len(steps)
            steps[0].append(((0, begin), begin))
            for at in range(size):
                steps.append([((0, 0), begin + (at + 1) % size)])
            steps[begin + peak] += [((1, 0), -1), ((1, 1), -1)]
        steps.append([])
        last = len(steps) - 1
        words = (len(steps), 0, tuple(tuple((letter, last if to < 0 else to) for letter, to in row) for row in steps))
        found = numbers(words, 100)
        self.assertEqual(found.index(max(found)), 19)
        self.same((growth(words), period(words)), (("bounded", 9), 30))
        self.same(growth(words), ("bounded", max(found)))

    def test_most_words_come_early(self):
        words = (3, 0, ((((0, 0), 1), ((0, 1), 1), ((0, 2), 2)), (), (((0, 0), 2),)))
        self.same((counted(words, 4), growth(words)), ((1, 3, 1, 1, 1), ("bounded", 3)))
        self.same(growth(NOTHING), ("bounded", 1))

    def test_limited(self):
        chance = random.Random(32)
        for words in TRIED[::2]:
            for _ in range(4):
                limits = [chance.choice((None, 0, 1, 2)) for _ in range(chance.randrange(4))]
                found = limited(words, limits)
                self.same(check_words(found), found)
                told = {row for row, _ in words_to(words, 4) if all(
                    limit is None or sum(letter[0] == hand for letter in row) <= limit
                    for hand, limit in enumerate(limits))}
                self.assertEqual({row for row, _ in words_to(found, 4)}, told)
                self.same(growth(found), tried_growth(found))

    def test_any_value_as_limits(self):
        for value in [value for value in ODD if value not in ((), [], (None,), (0, 0), (1, 0, 0), (0, 0, 0))] + [
                (0, True), (None, -1), "12", (0, "1"), (1, (2,)), None, 3, (0, 1.5)]:
            self.fails(Refused, value, limited, GOLD, value)
        self.same(limited(GOLD, ()), limited(GOLD, [None, None, None, None, None]))
        self.same(counted(limited(GOLD, (0, 0, 0, 0, 0, 7)), 2), (1, 0, 0))
        self.untouched(limited, GOLD, (1, None))

    def test_limits(self):
        chance = random.Random(33)
        begun = time.monotonic()
        steps = []
        for _ in range(40):
            letters = sorted(chance.sample(list(itertools.product(range(3), range(20))), 10))
            steps.append(tuple((letter, chance.randrange(40)) for letter in letters))
        words = (40, 0, tuple(steps))
        self.assertEqual(sum(counted(words, 200)), sum(numbers(words, 200)))
        self.same(growth(words), ("multiplied",))
        for limits in ((49,), (6, None, 6), (3, 3, 2), (None, None, 49), (0, 24, 1)):
            self.assertIn(growth(limited(words, limits))[0], ("multiplied", "power", "bounded"))
        self.same(growth(limited(words, (3, 3, 2))), ("bounded", max(numbers(limited(words, (3, 3, 2)), 8))))
        chain = (1, 0, ((((0, 0), 0),),))
        self.same(growth(limited(chain, (1999,))), ("bounded", 1))
        ring = (40, 0, tuple((((0, 0), (state + 1) % 40),) for state in range(40)))
        self.same((growth(ring), period(ring)), (("bounded", 1), 40))
        self.assertLess(time.monotonic() - begun, 20)


class Rates(unittest.TestCase, Trying):
    """Point [46]."""

    RATES = ((0, 1), (0, 7), (1, 2), (1, 1), (2, 1), (3, 2), (8, 5), (13, 8), (3, 1), (4, 1), (99, 50), (1000, 1000))

    def test_papers_hold(self):
        for words in TRIED:
            for top, bottom in self.RATES:
                paper = rate_paper(words, top, bottom)
                self.same(paper, (str(paper[0]), tuple(paper[1])))
                self.assertTrue(len(paper[1]) == words[0] and all(type(weight) is int for weight in paper[1]))
                self.assertTrue(all(weight >= 0 for weight in paper[1]))
                self.assertTrue(tried_holds(words, top, bottom, paper))
                self.same(rate_holds(words, top, bottom, paper), True)
                self.same(rate_holds(words, top, bottom, [paper[0], list(paper[1])]), True)
                other = "below" if paper[0] == "reached" else "reached"
                self.same(rate_holds(words, top, bottom, (other, paper[1])), False)
                told = above(words, top, bottom)
                if told is not None:
                    self.assertEqual(paper[0] == "reached", told)

    def test_judged_against_all_weights(self):
        for words in [words for words in TRIED if words[0] < 4][:30]:
            for top, bottom in ((1, 1), (3, 2), (2, 1), (0, 1)):
                held = []
                for kind in ("below", "reached"):
                    for weights in itertools.product(range(4), repeat=words[0]):
                        told = tried_holds(words, top, bottom, (kind, weights))
                        self.same(rate_holds(words, top, bottom, (kind, weights)), told)
                        held += [kind] if told else []
                self.assertLessEqual(set(held), {rate_paper(words, top, bottom)[0]})

    def test_parts(self):
        for words in TRIED:
            for bottom in (1, 2, 7, 100):
                top = rate_parts(words, bottom)
                self.same(top, int(top))
                self.assertEqual(rate_paper(words, top, bottom)[0], "reached")
                self.assertEqual(rate_paper(words, top + 1, bottom)[0], "below")
        self.same((rate_parts(NOTHING, 9), rate_parts(LIGHT, 9), rate_parts(GOLD, 1000)), (0, 9, 1618))

    def test_states_not_come_to_do_not_count(self):
        words = (2, 0, ((), (((0, 0), 1), ((0, 1), 1))))
        self.same((rate_parts(words, 5), bits_in(words, 3), growth(words), loops(words)), (0, None, ("bounded", 1), ()))
        self.same(rate_holds(words, 1, 1, ("below", (1, 0))), True)
        self.same(rate_holds(words, 1, 1, ("reached", (0, 1))), False)
        self.same(rate_holds(words, 0, 1, ("reached", (0, 1))), False)
        self.same(rate_holds(words, 0, 1, ("reached", (1, 0))), True)

    def test_any_value_as_a_paper(self):
        for value in list(ODD) + [
                ("reached", (2,)), ("reached", (2, 1, 0)), ("reached", (2, True)), ("reached", (2, -1)), ("reached", "21"),
                ("reached", (2, 1), 0), ("other", (2, 1)), (None, (2, 1)), (["reached"], (2, 1)), ("reached", None),
                ("reached", (0, 0)), ("reached", (2, "1")), ("below", (2, 1)), "reached"]:
            self.same(rate_holds(GOLD, 3, 2, value), False)
        self.same(rate_holds(GOLD, 3, 2, ["reached", (2, 1)]), True)

    def test_errors_and_lists(self):
        for value in NO_NUMBERS + [1.5]:
            self.fails(Refused, value, rate_paper, GOLD, value, 0)
            self.fails(Refused, value, rate_holds, GOLD, value, None, None)
        for value in NO_NUMBERS + [0]:
            self.fails(Refused, value, rate_paper, GOLD, 1, value)
            self.fails(Refused, value, rate_holds, GOLD, 1, value, None)
            self.fails(Refused, value, rate_parts, GOLD, value)
        self.untouched(rate_paper, GOLD, 8, 5)
        self.untouched(rate_holds, GOLD, 3, 2, ("reached", (2, 1)))
        self.untouched(rate_parts, GOLD, 10)
        self.fails(Refused, [True], rate_paper, GOLD, [True], NoHand(0))

    def test_limits(self):
        chance = random.Random(34)
        begun = time.monotonic()
        steps = []
        for _ in range(40):
            letters = sorted(chance.sample(list(itertools.product(range(3), range(20))), chance.randint(2, 18)))
            steps.append(tuple((letter, chance.randrange(40)) for letter in letters))
        words = (40, 0, tuple(steps))
        top = rate_parts(words, 1000)
        for near in (top, top + 1):
            self.same(rate_holds(words, near, 1000, rate_paper(words, near, 1000)), True)
        self.assertEqual(bits_in(words, 24), int(24 * math.log2(top / 1000)))
        self.assertEqual(bits_in(words, 1), int(math.log2(top / 1000)))
        self.assertLess(time.monotonic() - begun, 20)


class Bits(unittest.TestCase, Trying):
    """Point [47]."""

    def in_rows(self, words, length):
        """The machine whose letters are the rows of so many letters from each state."""
        steps = []
        for state in range(words[0]):
            ends = [end for row, end in words_to((words[0], state, words[2]), length) if len(row) == length]
            steps.append(tuple(((0, at), end) for at, end in enumerate(ends)))
        return words[0], steps

    def test_against_rows_for_letters(self):
        for words in TRIED:
            for length in (1, 2, 3, 4):
                bits = bits_in(words, length)
                if not loops(words):
                    self.same(bits, None)
                    continue
                # Rows that lead anywhere from states come to: states that just rows do not come to are kept, too.
                many, steps = self.in_rows(words, length)
                first = tuple(((1, state), state) for state in come_to(words))
                rows = (many + 1, many, tuple(steps) + (first,))
                self.same(rate_paper(rows, 2 ** bits, 1)[0], "reached")
                self.same(rate_paper(rows, 2 ** (bits + 1), 1)[0], "below")

    def test_exact_powers(self):
        double = (1, 0, ((((0, 0), 0), ((0, 1), 0)),))
        self.same([bits_in(double, length) for length in (1, 2, 24)], [1, 2, 24])
        root = (2, 0, ((((0, 0), 1), ((0, 1), 1)), (((0, 0), 0),)))
        self.same([bits_in(root, length) for length in (1, 2, 3, 4, 23, 24)], [0, 1, 1, 2, 11, 12])
        self.same([bits_in(TURN, length) for length in (1, 2, 7)], [0, 0, 0])

    def test_doubling(self):
        for words in TRIED:
            if loops(words):
                bits, found = bits_in(words, 6), numbers(words, 306)
                grown = math.log2(found[306]) - math.log2(found[6])
                self.assertGreater(grown, 50 * bits - 30)
                self.assertLess(grown, 50 * (bits + 1) + 30)

    def test_errors_and_lists(self):
        for value in NO_NUMBERS + [0]:
            self.fails(Refused, value, bits_in, GOLD, value)
            self.fails(Refused, value, bits_in, NOTHING, value)
        self.untouched(bits_in, GOLD, 3)
