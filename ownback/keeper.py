"""The keeper: a desk that keeps the normal history of what stands, and nothing more."""

from ownback.checks import is_sequence
from ownback.errors import Refused
from ownback.histories import boards_behind, check_hands, press_made, standing
from ownback.machines import check_machine
from ownback.normal import normal_behind


class Keeper:
    """A desk at which nothing was pressed yet: it takes presses, and tells what stands."""

    def __init__(self, machine, hands):
        self.machine = check_machine(machine)
        check_hands(hands)
        self.hands = hands
        self.history = ()

    def take(self, press):
        self.history = self.renewed_behind(self.history, press)
        return self.history

    def take_all(self, presses):
        if not is_sequence(presses):
            raise Refused(presses)
        # What stands is kept apart till the last press: if one cannot be pressed, none is taken.
        history = self.history
        for press in presses:
            history = self.renewed_behind(history, press)
        self.history = history
        return history

    def renewed_behind(self, history, press):
        return normal_behind(self.machine, self.hands, press_made(self.machine, self.hands, history, press))

    def board_now(self):
        return boards_behind(self.machine, self.history)[-1]

    def standing(self):
        return standing(self.hands, self.history)

    def twin(self):
        other = Keeper(self.machine, self.hands)
        other.history = self.history
        return other
