import random
import time
import unittest

from ownback.errors import BadMachine, NoDeed, NoHand, Refused
from ownback.keeper import Keeper
from ownback.normal import normal_of
from tests.trying import LAMP, ODD, SMALL, Trying, behind_press, lead, presses_of, random_machines

SETTING = (0, ((0, 0, 0), (1, 2, 1)))


class Keepers(unittest.TestCase, Trying):
    """Point [51]."""

    def told(self, keeper):
        return keeper.machine, keeper.hands, keeper.history, keeper.board_now(), keeper.standing()

    def right(self, keeper, history):
        machine, hands = keeper.machine, keeper.hands
        self.same(keeper.history, normal_of(machine, hands, history))
        self.same(keeper.board_now(), lead(machine, machine[0], [deed for _, deed in history]))
        self.same(keeper.standing(), tuple(sum(letter[0] == hand for letter in history) for hand in range(hands)))

    def test_press_by_press(self):
        chance = random.Random(41)
        for machine in SMALL + tuple(random_machines(10, 4, 3, seed=42)):
            for hands in (1, 2, 3, 4):
                keeper, history = Keeper(machine, hands), ()
                self.right(keeper, ())
                for _ in range(20):
                    press = chance.choice(presses_of(machine, hands))
                    behind = behind_press(history, press)
                    if behind is None:
                        before = self.told(keeper)
                        self.fails(Refused, press, keeper.take, press)
                        self.assertEqual(self.told(keeper), before)
                    elif len(behind) < 9:
                        history = behind
                        self.same(keeper.take(press), normal_of(machine, hands, history))
                        self.right(keeper, history)

    def test_all_at_once(self):
        presses = [["deed", 1, 0], ("deed", 0, 1), ["back", 1], ("deed", 1, 1)]
        keeper, other = Keeper(SETTING, 2), Keeper(machine=SETTING, hands=2)
        for press in presses:
            other.take(press=press)
        before = repr(presses)
        self.same(keeper.take_all(presses=presses), other.history)
        self.assertEqual(self.told(keeper), self.told(other))
        self.assertEqual(repr(presses), before)
        self.same(keeper.take_all(()), other.history)

    def test_if_one_cannot_be_pressed_none_is_taken(self):
        keeper = Keeper(SETTING, 2)
        keeper.take(("deed", 0, 1))
        before = self.told(keeper)
        self.fails(Refused, ("back", 0), keeper.take_all, [("back", 0), ("deed", 1, 1), ("back", 0), None])
        self.fails(NoHand, 2, keeper.take_all, [("deed", 1, 1), ("deed", 2, 5)])
        self.fails(NoDeed, 2, keeper.take_all, (("deed", 1, 1), ("deed", 1, 2)))
        for value in ODD:
            if isinstance(value, (list, tuple)):
                if len(value):
                    self.fails(Refused, value[0], keeper.take_all, value)
            else:
                self.fails(Refused, value, keeper.take_all, value)
            self.fails(Refused, value, keeper.take, value)
            self.assertEqual(self.told(keeper), before)
        self.fails(NoHand, 3, keeper.take, ("back", 3))
        self.fails(NoHand, 2, keeper.take, ["deed", 2, 5])
        self.fails(NoDeed, 2, keeper.take, ["deed", 1, 2])
        self.fails(Refused, ["back", 1], keeper.take, ["back", 1])
        self.assertEqual(self.told(keeper), before)

    def test_twin(self):
        keeper = Keeper(SETTING, 2)
        keeper.take_all([("deed", 1, 0), ("deed", 0, 1)])
        twin = keeper.twin()
        self.assertIs(twin.__class__, Keeper)
        self.assertEqual(self.told(twin), self.told(keeper))
        before = self.told(keeper)
        twin.take(("back", 1))
        self.assertEqual(self.told(keeper), before)
        self.same(twin.history, ((0, 1),))
        keeper.take(("back", 0))
        self.same((keeper.history, twin.history), (((1, 0),), ((0, 1),)))

    def test_attributes(self):
        machine = [0, [[0, 0, 0], [1, 2, 1]]]
        keeper = Keeper(machine, 2)
        machine[1][0][0] = 2
        machine[0] = 1
        self.same((keeper.machine, keeper.hands, keeper.history), (SETTING, 2, ()))
        self.same((keeper.board_now(), keeper.standing()), (0, (0, 0)))

    def test_errors(self):
        self.fails(BadMachine, -1, Keeper, None, None)
        self.fails(BadMachine, 1, Keeper, (0, ((),)), None)
        for value in [value for value in ODD if type(value) is not int] + [0, 5, -1]:
            self.fails(Refused, value, Keeper, LAMP, value)

    def test_limits(self):
        begun = time.monotonic()
        chance = random.Random(43)
        for machine in random_machines(6, 8, 6, seed=44):
            keeper, history = Keeper(machine, 4), ()
            for _ in range(40):
                press = chance.choice(presses_of(machine, 4))
                behind = behind_press(history, press)
                if behind is not None and len(behind) <= 12:
                    history = behind
                    keeper.take(press)
            self.right(keeper, history)
        self.assertLess(time.monotonic() - begun, 10)
