"""Books: a desk that lays its presses in a journal, and can be opened anew wherever that is cut."""

from ownback.errors import Broken, NoDeed, NoHand, Refused
from ownback.histories import boards_behind, check_hands, check_history, is_history, press_made
from ownback.journals import Journal, as_begun, open_journal, plain_journal
from ownback.machines import check_machine
from ownback.normal import normal_behind


def folded_octets(machine, hands, history):
    machine = check_machine(machine)
    history = check_history(machine, hands, history)
    return as_begun(0, normal_behind(machine, hands, history))


def press_number(machine, hands, history, press, number):
    """The history behind the press of this number."""
    try:
        return press_made(machine, hands, history, press)
    except (Refused, NoHand, NoDeed):
        raise Broken(number)


def history_told(machine, hands, begun, laid):
    """The history that a journal tells of this machine and so many hands."""
    if not is_history(begun, hands, len(machine[1])):
        raise Broken(0)
    history = begun
    for number, press in enumerate(laid, start=1):
        history = press_number(machine, hands, history, press, number)
    return history


def plain_book(machine, hands, pages):
    machine = check_machine(machine)
    check_hands(hands)
    told = plain_journal(pages)
    return history_told(machine, hands, told[2], told[3])


class Book:
    """A desk and its journal, which nothing but the desk changes."""

    def __init__(self, machine, hands, journal):
        self.machine = machine
        self.hands = hands
        self.journal = journal
        self.history = history_told(machine, hands, journal.begun, journal.laid)

    def take(self, press):
        history = press_made(self.machine, self.hands, self.history, press)
        self.journal.lay(press)
        self.history = history
        return self.board_now()

    def board_now(self):
        return boards_behind(self.machine, self.history)[-1]

    def both_pages(self):
        return self.journal.pages

    def keep(self):
        self.journal.keep()

    def loose(self):
        return self.journal.loose()

    def cut(self, left):
        self.journal.cut(left)
        self.history = history_told(self.machine, self.hands, self.journal.begun, self.journal.laid)

    def fold(self):
        self.history = normal_behind(self.machine, self.hands, self.history)
        self.journal.begin(self.history)


def new_book(machine, hands):
    machine = check_machine(machine)
    check_hands(hands)
    return Book(machine, hands, Journal())


def open_book(machine, hands, pages):
    machine = check_machine(machine)
    check_hands(hands)
    return Book(machine, hands, open_journal(pages))
