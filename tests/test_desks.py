import itertools
import random
import time
import unittest

from ownback.counts import count
from ownback.desks import check_desk, desk_apart, desk_kinds, is_right, keeper_desk
from ownback.errors import BadMachine, NoHand, Refused, TooGreat
from ownback.keeper import Keeper
from ownback.normal import normal_of, renewed
from tests.trying import (
    LAMP, ODD, SMALL, Trying, behind_press, board_of, counts_in, lead, presses_of, random_machines,
)

SETTING = (0, ((0, 0, 0), (1, 2, 1)))
WRONG = (0, ((0, ((0, 1),) * 2, (0, 0)), (1, ((0, 1),) * 2, (0, 0))))
CASES = ((LAMP, 2, 2), (SETTING, 2, 2), (SMALL[6], 2, 3), (SMALL[3], 3, 2), (SMALL[1], 3, 3), (SMALL[5], 1, 4),
         (SMALL[9], 2, 2), (SMALL[0], 4, 2), (LAMP, 2, 0), (SETTING, 1, 1))


def led(desk, situation, press):
    row = desk[1][situation]
    return row[1][press[1]][press[2]] if press[0] == "deed" else row[2][press[1]]


def all_pairs(machine, hands, desk, limit):
    """By pair (situation, history as it stands) that comes the fewest presses to it: with nothing but trying."""
    found = {(desk[0], ()): ()}
    come = list(found)
    for situation, history in come:
        for press in presses_of(machine, hands):
            behind = behind_press(history, press)
            if behind is not None and len(behind) <= limit:
                pair = (led(desk, situation, press), behind)
                if pair not in found:
                    found[pair] = found[situation, history] + (press,)
                    come.append(pair)
    return found


def normal_pairs(machine, hands, desk, limit):
    return {(situation, normal_of(machine, hands, history))
            for situation, history in all_pairs(machine, hands, desk, limit)}


def fewest_wrong(machine, hands, desk, limit):
    """How many presses lead at least to a wrong board, None if none do."""
    return min((len(row) for (situation, history), row in all_pairs(machine, hands, desk, limit).items()
                if desk[1][situation][0] != board_of(machine, history)), default=None)


def shows_wrong(machine, hands, desk, limit, presses):
    situation, history = desk[0], ()
    for press in presses:
        situation, history = led(desk, situation, press), behind_press(history, press)
        if len(history) > limit:
            return False
    return desk[1][situation][0] != board_of(machine, history)


def tried_keeper_desk(machine, hands, limit):
    """The point's own words: normal histories, numbered as they are come to."""
    names, come, rows = {(): 0}, [()], []
    for history in come:
        behind = []
        for press in presses_of(machine, hands):
            after = behind_press(history, press)
            after = history if after is None or len(after) > limit else renewed(machine, hands, history, press)
            if after not in names:
                names[after] = len(names)
                come.append(after)
            behind.append(names[after])
        many = len(machine[1])
        deeds = tuple(tuple(behind[hand * many:hand * many + many]) for hand in range(hands))
        rows.append((board_of(machine, history), deeds, tuple(behind[hands * many:])))
    return (0, tuple(rows)), names


def bent(desk, machine, chance):
    """The desk with one thing changed."""
    start, rows = desk
    at, what = chance.randrange(len(rows)), chance.randrange(3)
    board, deeds, backs = rows[at]
    if what == 0:
        board = chance.randrange(len(machine[1][0]))
    else:
        hand, to = chance.randrange(len(backs)), chance.randrange(len(rows))
        if what == 1:
            deed = chance.randrange(len(machine[1]))
            row = deeds[hand][:deed] + (to,) + deeds[hand][deed + 1:]
            deeds = deeds[:hand] + (row,) + deeds[hand + 1:]
        else:
            backs = backs[:hand] + (to,) + backs[hand + 1:]
    return start, rows[:at] + ((board, deeds, backs),) + rows[at + 1:]


def renamed(desk, chance):
    """The same desk with other names of its situations."""
    start, rows = desk
    names = list(range(len(rows)))
    chance.shuffle(names)
    changed = [None] * len(rows)
    for at, (board, deeds, backs) in enumerate(rows):
        changed[names[at]] = (board, tuple(tuple(names[to] for to in row) for row in deeds),
                              tuple(names[to] for to in backs))
    return names[start], tuple(changed)


class Desks(unittest.TestCase, Trying):
    """Point [52]."""

    def test_keepers_and_what_is_bent(self):
        chance = random.Random(51)
        for machine, hands, limit in CASES:
            desk = keeper_desk(machine, hands, limit, most=2000)
            self.judged(machine, hands, desk, limit)
            self.judged(machine, hands, renamed(desk, chance), limit)
            for _ in range(12):
                desk = bent(desk, machine, chance)
                self.judged(machine, hands, desk, limit)

    def judged(self, machine, hands, desk, limit):
        fewest = fewest_wrong(machine, hands, desk, limit)
        self.same(is_right(machine, hands, desk, limit, most=5000), fewest is None)
        presses = desk_apart(machine, hands, desk, limit, most=5000)
        if fewest is None:
            self.same(presses, None)
        else:
            self.assertEqual(len(presses), fewest)
            self.same(presses, tuple(tuple(press) for press in presses))
            self.assertTrue(shows_wrong(machine, hands, desk, limit, presses))

    def test_random_desks(self):
        chance = random.Random(52)
        for _ in range(60):
            machine = chance.choice(SMALL[:8])
            hands, many = chance.choice((1, 2)), chance.randint(1, 4)
            rows = tuple((chance.randrange(len(machine[1][0])),
                          tuple(tuple(chance.randrange(many) for _ in machine[1]) for _ in range(hands)),
                          tuple(chance.randrange(many) for _ in range(hands))) for _ in range(many))
            self.judged(machine, hands, (chance.randrange(many), rows), chance.randrange(4))

    def test_nothing_pressed(self):
        desk = (0, ((1, ((0, 0),), (0,)),))
        self.same(desk_apart(LAMP, 1, desk, 0, most=1), ())
        self.same(is_right(LAMP, 1, desk, 0, most=1), False)
        self.same(is_right(LAMP, 1, (0, ((0, ((0, 0),), (0,)),)), 0, most=1), True)

    def test_check_desk(self):
        told = (1, ((0, ((0, 1), (1, 1)), (0, 0)), (1, ((0, 1), (1, 0)), (1, 0))))
        self.same(check_desk(LAMP, 2, told), told)
        self.untouched(check_desk, LAMP, 2, told)
        row = (0, ((0, 0), (0, 0)), (0, 0))
        self.same(len(check_desk(LAMP, 2, (1999, [row] * 2000))[1]), 2000)
        bad = [(0, ()), (1, (row,)), (-1, (row,)), (True, (row, row)), (0, (row,), 0), (0, [row] * 2001), (0, None),
               (0, (row[:2],)), (0, (row + (0,),)), (0, ((2,) + row[1:],)), (0, ((True,) + row[1:],)), (0, (None,)),
               (0, ((0, ((0, 0),), (0, 0)),)), (0, ((0, ((0, 0), (0,)), (0, 0)),)), (0, ((0, ((0, 0), (0, 1)), (0, 0)),)),
               (0, ((0, ((0, 0), (0, False)), (0, 0)),)), (0, ((0, None, (0, 0)),)), (0, ((0, ((0, 0), "00"), (0, 0)),)),
               (0, ((0, ((0, 0), (0, 0)), (0,)),)), (0, ((0, ((0, 0), (0, 0)), (0, 1)),)), (None, (row,)), "ab",
               (0, ((0, ((0, 0), (0, 0)), (0, None)),)), (0, ((0, ((0, 0), (0, 0)), (0, 0, 0)),)), (0, ("abc",))]
        for value in list(ODD) + bad:
            self.fails(Refused, value, check_desk, LAMP, 2, value)
            for call in (is_right, desk_apart, desk_kinds):
                self.fails(Refused, value, call, LAMP, 2, value, None, most=1)

    def test_errors_and_lists(self):
        for call, more in ((check_desk, ()), (is_right, (None,)), (desk_apart, (None,)), (desk_kinds, (None,))):
            named = {"most": 9} if more else {}
            self.fails(BadMachine, 1, call, (0, ()), None, None, *more, **named)
            for value in (None, 0, 5, True, "2", (1,), NoHand(0)):
                self.fails(Refused, value, call, LAMP, value, None, *more, **named)
        for call in (is_right, desk_apart, desk_kinds):
            for value in [value for value in ODD if type(value) is not int] + [-1]:
                self.fails(Refused, value, call, SETTING, 2, WRONG, value, most=9)
            self.untouched(call, SETTING, 2, WRONG, 2, most=99)

    def test_too_great_only_where_there_are_more(self):
        chance = random.Random(53)
        for machine, hands, limit in CASES[:6]:
            desk = keeper_desk(machine, hands, limit, most=2000)
            for desk in (desk, bent(desk, machine, chance), bent(bent(desk, machine, chance), machine, chance)):
                many = len(normal_pairs(machine, hands, desk, limit))
                for call in (is_right, desk_apart, desk_kinds):
                    told = call(machine, hands, desk, limit, most=5000)
                    self.same(call(machine, hands, desk, limit, most=many), told)
                    for most in (1, 2, many // 2, many - 1):
                        if 0 < most < many:
                            try:
                                self.same(call(machine, hands, desk, limit, most=most), told)
                            except TooGreat as error:
                                self.assertEqual(error.most, most)


class BesideTheKeeper(unittest.TestCase, Trying):
    """Point [53]."""

    def test_kinds(self):
        chance = random.Random(54)
        for machine, hands, limit in CASES:
            desk = keeper_desk(machine, hands, limit, most=2000)
            for _ in range(4):
                told = sorted((counts_in(hands, history), situation, history)
                              for situation, history in normal_pairs(machine, hands, desk, limit))
                self.same(desk_kinds(machine, hands, desk, limit, most=5000), tuple(told))
                desk = bent(desk, machine, chance)

    def test_keeper_desk(self):
        for machine, hands, limit in CASES + ((SMALL[8], 2, 2), (LAMP, 4, 2)):
            desk, names = tried_keeper_desk(machine, hands, limit)
            self.same(keeper_desk(machine, hands, limit, most=2000), desk)
            self.same(keeper_desk(machine, hands, limit, most=len(names)), desk)
            self.same(check_desk(machine, hands, desk), desk)
            if len(names) > 1:
                self.fails(TooGreat, len(names) - 1, keeper_desk, machine, hands, limit, most=len(names) - 1)

    def test_it_shows_what_the_keeper_shows(self):
        chance = random.Random(55)
        for machine, hands, limit in CASES:
            desk, names = tried_keeper_desk(machine, hands, limit)
            keeper, situation = Keeper(machine, hands), 0
            for _ in range(30):
                press = chance.choice(presses_of(machine, hands))
                behind = behind_press(keeper.history, press)
                if behind is not None and len(behind) <= limit:
                    keeper.take(press)
                    situation = led(desk, situation, press)
                    self.assertEqual(names[keeper.history], situation)
                    self.assertEqual(desk[1][situation][0], keeper.board_now())

    def test_errors_and_lists(self):
        self.fails(BadMachine, -1, keeper_desk, None, None, None, most=1)
        for value in (None, 0, 5, True, "2", (1,)):
            self.fails(Refused, value, keeper_desk, LAMP, value, None, most=1)
        for value in [value for value in ODD if type(value) is not int] + [-1]:
            self.fails(Refused, value, keeper_desk, LAMP, 2, value, most=1)
        self.untouched(keeper_desk, LAMP, 2, 2, most=99)


class Theorem(unittest.TestCase, Trying):
    """Point [54]."""

    def test_right_desks_have_one_kind_for_a_situation(self):
        chance = random.Random(56)
        for machine, hands, limit in CASES:
            desk = keeper_desk(machine, hands, limit, most=2000)
            for _ in range(8):
                if is_right(machine, hands, desk, limit, most=5000):
                    kinds = desk_kinds(machine, hands, desk, limit, most=5000)
                    self.assertEqual(len({row[:2] for row in kinds}), len(kinds))
                    for counts in {row[0] for row in kinds}:
                        situations = [row for row in kinds if row[0] == counts]
                        self.assertGreaterEqual(len(situations), count(machine, counts, most=2000))
                desk = bent(desk, machine, chance)

    def test_the_keeper_has_just_so_many(self):
        for machine, hands, limit in CASES:
            kinds = desk_kinds(machine, hands, keeper_desk(machine, hands, limit, most=2000), limit, most=5000)
            for counts in itertools.product(range(limit + 1), repeat=hands):
                if sum(counts) <= limit:
                    many = sum(row[0] == counts for row in kinds)
                    self.assertEqual(many, count(machine, counts, most=5000))


class Limits(unittest.TestCase, Trying):

    def test_limits(self):
        begun = time.monotonic()
        chance = random.Random(57)
        for machine in random_machines(10, 3, 3, seed=58) + [(0, ((1, 2, 0), (1, 0, 2), (0, 0, 1)))]:
            try:
                desk = keeper_desk(machine, 3, 4, most=2000)
            except TooGreat as error:
                self.assertEqual(error.most, 2000)
                desk = keeper_desk(machine, 3, 3, most=2000)
            for desk in (desk, bent(desk, machine, chance)):
                for call in (is_right, desk_apart, desk_kinds):
                    try:
                        call(machine, 3, desk, 4, most=5000)
                    except TooGreat as error:
                        self.assertEqual(error.most, 5000)
        self.assertLess(time.monotonic() - begun, 20)
