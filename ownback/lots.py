"""What deeds do on lots of boards."""

from ownback.checks import are_below, ascends, as_rows, is_pair, is_sequence
from ownback.errors import Refused
from ownback.machines import check_board, check_deed, check_machine


def check_lot(machine, lot):
    """The machine is a checked one, here and below."""
    if not are_below(lot, len(machine[1][0])) or not ascends(lot):
        raise Refused(lot)
    return tuple(lot)


def check_pairs(machine, pairs):
    if not is_sequence(pairs):
        raise Refused(pairs)
    many = len(machine[1][0])
    if not all([is_pair(pair) and are_below(pair, many) for pair in pairs]):
        raise Refused(pairs)
    return as_rows(pairs)


def deeds_doing(machine, pairs):
    """Of checked arguments: the deeds that lead the first board of each pair to the second one, ascending."""
    found = []
    for deed, moves in enumerate(machine[1]):
        if all([moves[board] == behind for board, behind in pairs]):
            found.append(deed)
    return tuple(found)


def done_on(machine, lot, deed):
    moves = machine[1][deed]
    return tuple([(board, moves[board]) for board in lot])


def led_lot(machine, lot, deed):
    machine = check_machine(machine)
    lot = check_lot(machine, lot)
    check_deed(machine, deed)
    return tuple(sorted({machine[1][deed][board] for board in lot}))


def like_on(machine, lot, deed):
    return doing(machine, done_pairs(machine, lot, deed))


def least_on(machine, lot, deed):
    return like_on(machine, lot, deed)[0]


def kinds_on(machine, lot):
    machine = check_machine(machine)
    lot = check_lot(machine, lot)
    kinds = {}
    for deed in range(len(machine[1])):
        kinds.setdefault(done_on(machine, lot, deed), []).append(deed)
    # Deeds come in order, so the kinds stand by their least deeds already.
    return as_rows(list(kinds.values()))


def unlike_at(machine, one, other):
    machine = check_machine(machine)
    check_deed(machine, one)
    check_deed(machine, other)
    first, second = machine[1][one], machine[1][other]
    return tuple([board for board in range(len(first)) if first[board] != second[board]])


def doing(machine, pairs):
    machine = check_machine(machine)
    return deeds_doing(machine, check_pairs(machine, pairs))


def done_pairs(machine, lot, deed):
    machine = check_machine(machine)
    lot = check_lot(machine, lot)
    check_deed(machine, deed)
    return done_on(machine, lot, deed)


def commute_at(machine, board, one, other):
    machine = check_machine(machine)
    check_board(machine, board)
    check_deed(machine, one)
    check_deed(machine, other)
    first, second = machine[1][one], machine[1][other]
    return second[first[board]] == first[second[board]]
