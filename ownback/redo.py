"""Redo: what a hand took back it can do again, at its old place."""

from ownback.checks import is_below, is_pair, is_sequence
from ownback.counts import count
from ownback.errors import Refused
from ownback.forms import HANDS
from ownback.histories import as_history, boards_behind, check_hand_below, check_hands, check_within, first_letters
from ownback.histories import press_told, standing
from ownback.machines import check_machine
from ownback.normal import normal_behind
from ownback.tables import moved, size_of, table_behind, vectors_of


def as_marked(machine, hands, value):
    """Any value as a marked history; all else is checked, here and below."""
    if not is_pair(value):
        raise Refused(value)
    history = as_history(value[0], hands, len(machine[1]))
    return history, check_within(hands, history, value[1])


def check_marked(machine, hands, value):
    machine = check_machine(machine)
    check_hands(hands)
    return as_marked(machine, hands, value)


def board_standing(machine, marked):
    history, marks = marked
    return boards_behind(machine, first_letters(history, marks))[-1]


def marked_board(machine, hands, marked):
    machine = check_machine(machine)
    return board_standing(machine, check_marked(machine, hands, marked))


def is_again(press):
    return is_pair(press) and press[0] == "again" and is_below(press[1], HANDS)


def again_made(hands, marked, press):
    history, marks = marked
    hand = press[1]
    check_hand_below(hands, hand)
    if marks[hand] == standing(hands, history)[hand]:
        raise Refused(press)
    return history, moved(marks, hand, 1)


def back_made(marked, press):
    history, marks = marked
    hand = press[1]
    if marks[hand] == 0:
        raise Refused(press)
    return history, moved(marks, hand, -1)


def deed_made(hands, marked, letter):
    """What the letter's hand had taken back is gone; what others had taken back stays where it is."""
    history, marks = marked
    hand = letter[0]
    gone = marks[hand] - standing(hands, history)[hand]
    left = first_letters(history, moved(standing(hands, history), hand, gone))
    return left + (letter,), moved(marks, hand, 1)


def marked_made(machine, hands, marked, press):
    """The marked history behind a press, which alone is still to be checked."""
    if is_again(press):
        return again_made(hands, marked, press)
    told = press_told(machine, hands, press)
    if told[0] == "back":
        return back_made(marked, press)
    return deed_made(hands, marked, told[1:])


def marked_pressed(machine, hands, marked, press):
    machine = check_machine(machine)
    return marked_made(machine, hands, check_marked(machine, hands, marked), press)


def nothing_marked(hands):
    return (), (0,) * hands


def marked_of(machine, hands, presses):
    machine = check_machine(machine)
    check_hands(hands)
    if not is_sequence(presses):
        raise Refused(presses)
    marked = nothing_marked(hands)
    for press in presses:
        marked = marked_made(machine, hands, marked, press)
    return marked


def marked_table(machine, hands, marked):
    machine = check_machine(machine)
    history, marks = check_marked(machine, hands, marked)
    return table_behind(machine, hands, history), marks


def marked_alike(machine, hands, one, other):
    return marked_table(machine, hands, one) == marked_table(machine, hands, other)


def presses_between(marks, vector):
    """Hand by hand the backs or agains behind which so many deeds stand as the vector tells."""
    presses = []
    for hand, (mark, number) in enumerate(zip(marks, vector)):
        word = "back" if number < mark else "again"
        presses.extend([(word, hand)] * abs(number - mark))
    return tuple(presses)


def marked_parting(machine, hands, one, other):
    one, marks = marked_table(machine, hands, one)
    other, others = marked_table(machine, hands, other)
    if marks != others or one[0] != other[0]:
        return ()
    if one == other:
        return None
    apart = [vector for vector, left, right in zip(vectors_of(one[0]), one[1], other[1]) if left != right]
    # Of vectors as near as another one the least stands first.
    return presses_between(marks, min([(len(presses_between(marks, vector)), vector) for vector in apart])[1])


def normal_marked(machine, hands, marked):
    history, marks = marked
    return normal_behind(machine, hands, history), marks


def marked_normal(machine, hands, marked):
    machine = check_machine(machine)
    return normal_marked(machine, hands, check_marked(machine, hands, marked))


def marked_kinds(machine, counts, *, most):
    kinds = count(machine, counts, most=most)
    return kinds * size_of(counts)


class Redoer:
    """A desk with redo, at which nothing was pressed yet: it keeps the normal history of all that can come to stand."""

    def __init__(self, machine, hands):
        self.machine = check_machine(machine)
        check_hands(hands)
        self.hands = hands
        self.marked = nothing_marked(hands)

    def take(self, press):
        behind = marked_made(self.machine, self.hands, self.marked, press)
        self.marked = normal_marked(self.machine, self.hands, behind)
        return self.marked

    def board_now(self):
        return board_standing(self.machine, self.marked)
