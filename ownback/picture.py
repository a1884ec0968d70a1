"""What is told of a row of presses, of two histories beside one another, and of what several hands cost."""

from ownback.cost import kinds_beside
from ownback.histories import board_of, check_two, counts_of, history_of, standing
from ownback.normal import normal_of
from ownback.parting import parting
from ownback.steps import some_way


def picture(machine, hands, presses):
    history = history_of(machine, hands, presses)
    return board_of(machine, history), counts_of(hands, history), normal_of(machine, hands, history)


def compare(machine, hands, one, other):
    machine, one, other = check_two(machine, hands, one, other)
    if standing(hands, one) != standing(hands, other):
        return ("numbers",)
    backs = parting(machine, hands, one, other)
    if backs is None:
        return "alike", some_way(machine, hands, one, other)
    return "apart", backs


def price(machine, counts, *, most):
    kinds, alone = kinds_beside(machine, counts, most=most)
    # So many bits has the greatest number below the kinds.
    return kinds, alone, (kinds - 1).bit_length()
