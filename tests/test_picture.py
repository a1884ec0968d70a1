import itertools
import random
import time
import unittest

from ownback.cost import kinds_beside
from ownback.errors import BadHistory, BadMachine, NoDeed, NoHand, Refused, TooGreat
from ownback.normal import normal_of
from ownback.picture import compare, picture, price
from ownback.steps import fewest_steps, way_holds
from tests.trying import (
    LAMP, ODD, SMALL, Trying, all_rows, behind_press, board_of, by_table, counts_in, histories_with, presses_of,
    random_machines, tried_table,
)

MACHINES = SMALL + tuple(random_machines(6, 4, 3, seed=161))


def played(presses, history=()):
    """What presses make of a history, None if one cannot be made."""
    for press in presses:
        history = None if history is None else behind_press(history, press)
    return history


def tells(machine, one, other, presses):
    """Whether presses that can be made behind two histories show unlike boards."""
    left, right = played(presses, one), played(presses, other)
    return None not in (left, right) and board_of(machine, left) != board_of(machine, right)


def backs_apart(machine, hands, one, other):
    """The least of the fewest backs behind which boards are unlike, with nothing but trying; None if there are none."""
    rows = all_rows([("back", hand) for hand in range(hands)], len(one))
    return next((backs for backs in rows if tells(machine, one, other, backs)), None)


class Pictures(unittest.TestCase, Trying):
    """Point [71]."""

    def test_rows_of_presses(self):
        chance = random.Random(162)
        for machine in MACHINES:
            for hands in (1, 2, 3, 4):
                for _ in range(5):
                    presses = [chance.choice(presses_of(machine, hands)) for _ in range(7)]
                    presses = [press for at, press in enumerate(presses) if played(presses[:at + 1]) is not None]
                    history = played(presses)
                    if history is not None:
                        told = board_of(machine, history), counts_in(hands, history), normal_of(machine, hands, history)
                        self.same(picture(machine, hands, presses), told)
                        self.untouched(picture, machine, hands, tuple(presses))
        self.same(picture(LAMP, 2, ()), (0, (0, 0), ()))

    def test_errors_of_pictures(self):
        self.fails(BadMachine, -1, picture, 9, 9, 9)
        for value in [value for value in ODD if type(value) is not int] + [0, 5, -1]:
            self.fails(Refused, value, picture, LAMP, value, 9)
        for value in ODD:
            if not isinstance(value, (list, tuple)):
                self.fails(Refused, value, picture, LAMP, 2, value)
            self.fails(Refused, value, picture, LAMP, 2, [("deed", 0, 0), value, None])
        self.fails(NoHand, 2, picture, LAMP, 2, [("deed", 2, 5)])
        self.fails(NoDeed, 2, picture, LAMP, 2, [("deed", 1, 2), None])
        self.fails(Refused, ["back", 1], picture, LAMP, 2, [["deed", 0, 0], ["back", 1]])

    def test_compared_against_all_rows_of_backs(self):
        chance = random.Random(163)
        for machine in MACHINES:
            for counts in ((2,), (1, 1), (2, 1), (1, 1, 1), (2, 2)):
                hands, histories = len(counts), histories_with(machine, counts)
                for _ in range(25):
                    one, other = chance.choice(histories), chance.choice(histories)
                    self.compared(machine, hands, one, other)
                alike = max(by_table(machine, counts).values(), key=len)
                self.compared(machine, hands, alike[0], alike[-1])

    def compared(self, machine, hands, one, other):
        told = compare(machine, hands, one, other)
        backs = backs_apart(machine, hands, one, other)
        if backs is not None:
            self.same(told, ("apart", backs))
            return
        self.assertEqual(tried_table(machine, hands, one), tried_table(machine, hands, other))
        self.assertEqual((told.__class__, len(told), told[0]), (tuple, 2, "alike"))
        self.assertEqual(len(told[1]), fewest_steps(machine, hands, one, other))
        self.same(way_holds(machine, hands, one, other, told[1]), True)
        self.assertTrue(all(step.__class__ is tuple for step in (told[1], *told[1])))

    def test_no_deeds_tell_more(self):
        for machine in (LAMP, SMALL[3], SMALL[6], SMALL[7]):
            for one, other in itertools.product(histories_with(machine, (1, 1)), repeat=2):
                fewest = self.fewest_presses(machine, 2, one, other, 3)
                told = compare(machine, 2, one, other)
                self.assertEqual(fewest, None if told[0] == "alike" else len(told[1]))

    def fewest_presses(self, machine, hands, one, other, most):
        rows = all_rows(presses_of(machine, hands), most)
        return next((len(presses) for presses in rows if tells(machine, one, other, presses)), None)

    def test_unlike_numbers(self):
        self.same(compare(LAMP, 2, ((0, 0),), ((1, 0),)), ("numbers",))
        self.same(compare(LAMP, 2, ((0, 0),), ()), ("numbers",))
        self.same(compare(LAMP, 2, [], ()), ("alike", ()))

    def test_errors_of_compare(self):
        self.fails(BadMachine, -1, compare, 9, 9, 9, 9)
        for value in [value for value in ODD if type(value) is not int] + [0, 5, -1]:
            self.fails(Refused, value, compare, LAMP, value, 9, 9)
        self.fails(BadHistory, -1, compare, LAMP, 2, 9, 9)
        self.fails(BadHistory, 1, compare, LAMP, 2, ((0, 0), (0, 2)), 9)
        self.fails(BadHistory, 0, compare, LAMP, 2, ((0, 0), (0, 0)), ((2, 0),))
        self.untouched(compare, LAMP, 2, ((0, 0), (1, 1)), ((1, 1), (0, 1)))

    def test_prices(self):
        for machine in MACHINES:
            for counts in ((0,), (3,), (1, 1), (2, 1), (1, 1, 1), (2, 2)):
                alone = 1
                for many in counts:
                    alone *= len(by_table(machine, (many,)))
                kinds, bits = len(by_table(machine, counts)), 0
                while 2 ** bits < kinds:
                    bits += 1
                self.same(price(machine, counts, most=2000), (kinds, alone, bits))
                self.untouched(price, machine, counts, most=2000)
        light = (0, ((1, 0), (0, 1)))
        for many, bits in ((0, 0), (1, 1), (5, 5)):
            self.same(price(light, (many,), most=9), (2 ** many, 2 ** many, bits))
        self.same(price((0, ((0, 0, 0), (1, 1, 1), (2, 2, 2))), (1,), most=9), (3, 3, 2))

    def test_errors_of_price(self):
        self.fails(BadMachine, 1, price, (0, ()), 9, most=9)
        for value in (None, 0, (), (0,) * 5, (-1,), (True,), [None], "11", ((1,),)):
            self.fails(Refused, value, price, LAMP, value, most=1)
        for most in range(1, 40):
            try:
                self.same(price(LAMP, (2, 2), most=most)[:2], kinds_beside(LAMP, (2, 2), most=2000))
            except TooGreat as error:
                self.assertEqual(error.most, most)
                self.fails(TooGreat, most, kinds_beside, LAMP, (2, 2), most=most)

    def test_limits(self):
        begun = time.monotonic()
        chance = random.Random(164)
        for machine in random_machines(6, 8, 6, seed=165):
            presses, history = [], ()
            while len(history) < 12:
                press = chance.choice(presses_of(machine, 4))
                if behind_press(history, press) is not None:
                    history = behind_press(history, press)
                    presses.append(press)
            told = picture(machine, 4, presses)
            self.same(compare(machine, 4, history, told[2])[0], "alike")
            other = tuple((hand, 0) for hand, _ in history[::-1])
            self.assertIn(compare(machine, 4, history, other)[0], ("alike", "apart"))
        for machine in random_machines(5, 3, 2, seed=166):
            self.assertEqual(len(price(machine, (2, 2, 2), most=2000)), 3)
        self.assertLess(time.monotonic() - begun, 10)
