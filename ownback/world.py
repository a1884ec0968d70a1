"""A world: what stands, as it was done, and a keeper beside it."""

from ownback.histories import boards_behind, press_made, standing
from ownback.keeper import Keeper
from ownback.picture import compare


class World:
    """A desk at which nothing was pressed yet, with a keeper that takes the same presses."""

    def __init__(self, machine, hands):
        self.keeper = Keeper(machine, hands)
        self.machine = self.keeper.machine
        self.hands = hands
        self.history = ()

    def take(self, press):
        self.history = press_made(self.machine, self.hands, self.history, press)
        self.keeper.take(press)
        return self.tells()

    def tells(self):
        board = boards_behind(self.machine, self.history)[-1]
        return board, standing(self.hands, self.history), self.keeper.history

    def beside(self, history):
        return compare(self.machine, self.hands, self.history, history)
