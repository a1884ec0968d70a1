"""Machines: boards, and where deeds lead them."""

from ownback.checks import as_rows, are_below, check_octets_at, form_at, is_below, is_pair, is_sequence
from ownback.errors import BadMachine, NoBoard, NoDeed, Refused

BOARDS = 8
DEEDS = 6


def are_maps(value):
    """Whether any value is the deeds of a machine."""
    if not is_sequence(value) or not 1 <= len(value) <= DEEDS:
        return False
    if not is_sequence(value[0]) or not 1 <= len(value[0]) <= BOARDS:
        return False
    many = len(value[0])
    return all([are_below(moves, many) and len(moves) == many for moves in value])


def check_machine(value):
    if not is_pair(value):
        raise BadMachine(-1)
    start, maps = value
    if not are_maps(maps):
        raise BadMachine(1)
    if not is_below(start, len(maps[0])):
        raise BadMachine(0)
    return start, as_rows(maps)


def check_board(machine, board):
    """The machine is a checked one, here and below."""
    if not is_below(board, len(machine[1][0])):
        raise NoBoard(board)


def check_deed(machine, deed):
    if not is_below(deed, len(machine[1])):
        raise NoDeed(deed)


def check_row(machine, deeds):
    if not is_sequence(deeds):
        raise Refused(deeds)
    for deed in deeds:
        check_deed(machine, deed)


def board_count(machine):
    return len(check_machine(machine)[1][0])


def deed_count(machine):
    return len(check_machine(machine)[1])


def led(machine, board, deeds):
    machine = check_machine(machine)
    check_board(machine, board)
    check_row(machine, deeds)
    for deed in deeds:
        board = machine[1][deed][board]
    return board


def first_rows(machine):
    """By board that can come the first row of deeds that leads there, in the order of these rows."""
    start, maps = machine
    rows = {start: ()}
    come = [start]
    at = 0
    while at < len(come):
        board = come[at]
        for deed, moves in enumerate(maps):
            if moves[board] not in rows:
                rows[moves[board]] = rows[board] + (deed,)
                come.append(moves[board])
        at += 1
    return rows


def boards_come(machine):
    return tuple(sorted(first_rows(check_machine(machine))))


def come_by(machine, board):
    machine = check_machine(machine)
    check_board(machine, board)
    return first_rows(machine).get(board)


def names_come(machine):
    return tuple(first_rows(check_machine(machine)))


def trimmed(machine):
    machine = check_machine(machine)
    names = list(first_rows(machine))
    places = {board: place for place, board in enumerate(names)}
    return 0, as_rows([[places[moves[board]] for board in names] for moves in machine[1]])


def same_but_names(machine, other):
    return trimmed(machine) == trimmed(other)


def machine_octets(machine):
    start, maps = check_machine(machine)
    octets = [len(maps[0]), start, len(maps)]
    for moves in maps:
        octets.extend(moves)
    return tuple(octets)


def span_in_machine(begun):
    """The span of the octet behind those of a form that is begun, None if the form is whole."""
    if len(begun) == 0:
        return (1, BOARDS + 1)
    if len(begun) == 2:
        return (1, DEEDS + 1)
    if len(begun) < 3 or len(begun) < 3 + begun[0] * begun[2]:
        return (0, begun[0])
    return None


def machine_at(octets, at):
    octets = check_octets_at(octets, at)
    form = form_at(octets, at, span_in_machine)
    many = form[0]
    maps = [form[place:place + many] for place in range(3, len(form), many)]
    return (form[1], as_rows(maps)), at + len(form)
