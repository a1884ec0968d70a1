import itertools
import random
import time
import unittest

from ownback.counts import count
from ownback.errors import BadHistory, BadMachine, NoDeed, NoHand, Refused
from ownback.keeper import Keeper
from ownback.normal import normal_of
from ownback.picture import compare
from ownback.steps import all_led
from ownback.tables import alike
from ownback.world import World
from tests.trying import (
    LAMP, ODD, SMALL, Trying, all_rows, behind_press, board_of, by_table, counts_in, histories_with, presses_of,
    random_machines,
)

MACHINES = SMALL + tuple(random_machines(8, 4, 3, seed=171))
SETTING = (0, ((0, 0, 0), (1, 2, 1)))


class Worlds(unittest.TestCase, Trying):
    """Points [72] and [73]."""

    def told(self, world):
        return world.machine, world.hands, world.history, world.keeper.history, world.tells()

    def right(self, world, history):
        machine, hands = world.machine, world.hands
        normal = normal_of(machine, hands, history)
        self.same(world.history, history)
        self.same(world.keeper.history, normal)
        self.same(world.tells(), (board_of(machine, history), counts_in(hands, history), normal))

    def test_press_by_press(self):
        chance = random.Random(172)
        for machine in MACHINES:
            for hands in (1, 2, 3, 4):
                world, history = World(machine, hands), ()
                self.right(world, ())
                for _ in range(15):
                    press = chance.choice(presses_of(machine, hands))
                    behind = behind_press(history, press)
                    if behind is None:
                        self.refuses(world, Refused, press, press)
                    elif len(behind) < 9:
                        history = behind
                        self.same(world.take(press), world.tells())
                        self.right(world, history)

    def refuses(self, world, kind, value, press):
        before = self.told(world)
        self.fails(kind, value, world.take, press)
        self.same(self.told(world), before)

    def test_a_back_is_as_if_the_deed_had_never_been(self):
        for machine in (LAMP, SETTING):
            for rest in all_rows((("deed", 1, 0), ("deed", 1, 1), ("back", 1)), 3):
                world, other = World(machine, 2), World(machine, 2)
                world.take(("deed", 0, 1))
                try:
                    for press in rest:
                        other.take(press)
                except Refused:
                    continue
                for press in rest:
                    world.take(press)
                self.same(world.take(("back", 0)), other.tells())
                self.same(world.history, other.history)

    def test_beside(self):
        chance = random.Random(173)
        for machine in MACHINES:
            for counts in ((2,), (2, 1), (1, 1, 1)):
                hands, histories = len(counts), histories_with(machine, counts)
                world, history = World(machine, hands), chance.choice(histories)
                for hand, deed in history:
                    world.take(("deed", hand, deed))
                before = self.told(world)
                for other in histories[::7] + [(), history[1:]]:
                    self.same(world.beside(other), compare(machine, hands, history, other))
                self.same(self.told(world), before)
        world = World(LAMP, 2)
        world.take(("deed", 0, 1))
        # The steps lead from the world's own history to the other one.
        self.same(world.beside(((0, 0),)), ("alike", (("put", 0, 0),)))
        self.same(world.beside(history=[[0, 1]]), ("alike", ()))
        self.same(world.beside([(1, 1)]), ("numbers",))

    def test_wrong_values(self):
        world = World(LAMP, 2)
        world.take(["deed", 1, 1])
        for value in ODD + (("back", 0), ["back", 0], ("back", 4), ("again", 1)):
            self.refuses(world, Refused, value, value)
        self.refuses(world, NoHand, 2, ("deed", 2, 5))
        self.refuses(world, NoDeed, 2, ["deed", 0, 2])
        before = self.told(world)
        for value in ODD:
            if not isinstance(value, (list, tuple)):
                self.fails(BadHistory, -1, world.beside, value)
            if repr(value) != "(0, 0)":
                self.fails(BadHistory, 1, world.beside, [(1, 1), value])
        self.same(self.told(world), before)
        self.fails(BadMachine, -1, World, 9, 9)
        for value in [value for value in ODD if type(value) is not int] + [0, 5, -1]:
            self.fails(Refused, value, World, LAMP, value)

    def test_attributes(self):
        machine = [0, [[1, 0], [1, 1]]]
        world = World(machine=machine, hands=2)
        machine[1][0][0] = 0
        self.same((world.machine, world.hands, world.history), (LAMP, 2, ()))
        self.assertIs(world.keeper.__class__, Keeper)
        self.same((world.keeper.machine, world.keeper.hands), (LAMP, 2))
        press = ["deed", 0, 0]
        world.take(press=press)
        press[2] = 1
        self.same(world.history, ((0, 0),))
        for name in ("take", "tells", "beside"):
            self.assertIn(name, vars(World))

    def test_limits(self):
        begun = time.monotonic()
        chance = random.Random(174)
        for machine in random_machines(6, 8, 6, seed=175):
            world, history = World(machine, 4), ()
            for _ in range(40):
                press = chance.choice(presses_of(machine, 4))
                behind = behind_press(history, press)
                if behind is not None and len(behind) <= 12:
                    history = behind
                    world.take(press)
            self.right(world, history)
            self.same(world.beside(world.keeper.history)[0], "alike")
        self.assertLess(time.monotonic() - begun, 10)


def shown_alike(machine, hands, one, other, many):
    """Whether no row of at most so many presses shows two histories unlike, by all rows of presses."""
    for presses in all_rows(presses_of(machine, hands), many):
        left, right = one, other
        for press in presses:
            if left is not None and right is not None:
                left, right = behind_press(left, press), behind_press(right, press)
        if left is not None and right is not None and board_of(machine, left) != board_of(machine, right):
            return False
    return True


class Theorem(unittest.TestCase, Trying):
    """Point [74] and the main sentence of chapter 1: its parts beside one another."""

    def test_alike_for_ever_one_table_and_unseen_steps(self):
        for machine in (LAMP, SETTING, SMALL[3], SMALL[6]):
            for counts, many in (((2,), 3), ((1, 1), 3), ((2, 1), 3)):
                hands, histories = len(counts), histories_with(machine, counts)
                for one, other in list(itertools.combinations(histories, 2))[::5]:
                    same = alike(machine, hands, one, other)
                    self.assertEqual(other in all_led(machine, hands, one, most=999), same)
                    self.assertEqual(compare(machine, hands, one, other)[0] == "alike", same)
                    self.assertEqual(normal_of(machine, hands, one) == normal_of(machine, hands, other), same)
                    if one < other and (sum(counts) < 3 or histories.index(one) % 4 == 0):
                        self.assertEqual(shown_alike(machine, hands, one, other, many), same)

    def test_a_world_keeps_just_as_many_kinds_as_there_must_be(self):
        for machine in MACHINES:
            for counts in ((2,), (1, 1), (2, 1)):
                kept = set()
                for histories in by_table(machine, counts).values():
                    worlds = set()
                    for history in histories[:4]:
                        world = World(machine, len(counts))
                        for hand, deed in history:
                            world.take(("deed", hand, deed))
                        worlds.add(world.keeper.history)
                    self.assertEqual(len(worlds), 1)
                    kept |= worlds
                self.assertEqual(len(kept), count(machine, counts, most=2000))
