"""What is seen of boards, and which boards look alike."""

from ownback.checks import are_numbers, as_rows
from ownback.errors import Refused
from ownback.machines import check_board, check_machine, first_rows, trimmed


def looks_of(machine, looks):
    """The looks as a tuple; the machine is a checked one, here and below."""
    if not are_numbers(looks) or len(looks) != len(machine[1][0]):
        raise Refused(looks)
    return tuple(looks)


def check_looks(machine, looks):
    return looks_of(check_machine(machine), looks)


def least_alike(maps, looks):
    """By board the least board that looks like it."""
    alike = [looks.index(look) for look in looks]
    while True:
        told = [(alike[board], [alike[moves[board]] for moves in maps]) for board in range(len(looks))]
        finer = [told.index(what) for what in told]
        if finer == alike:
            return tuple(alike)
        alike = finer


def alike_boards(machine, looks):
    machine = check_machine(machine)
    return least_alike(machine[1], looks_of(machine, looks))


def first_parting(maps, looks, board, other_maps, other_looks, other):
    """The first row of deeds behind which two boards, each of its own machine, are seen to be unlike, or None."""
    rows = {(board, other): ()}
    come = [(board, other)]
    at = 0
    while at < len(come):
        left, right = come[at]
        row = rows[(left, right)]
        if looks[left] != other_looks[right]:
            return row
        for deed, moves in enumerate(maps):
            behind = (moves[left], other_maps[deed][right])
            if behind not in rows:
                rows[behind] = row + (deed,)
                come.append(behind)
        at += 1
    return None


def parting_deeds(machine, looks, one, other):
    machine = check_machine(machine)
    looks = looks_of(machine, looks)
    check_board(machine, one)
    check_board(machine, other)
    return first_parting(machine[1], looks, one, machine[1], looks, other)


def least_machine(machine, looks):
    machine = check_machine(machine)
    looks = looks_of(machine, looks)
    alike = least_alike(machine[1], looks)
    joined = (alike[machine[0]], as_rows([[alike[board] for board in moves] for moves in machine[1]]))
    left = list(first_rows(joined))
    come = first_rows(machine)
    names = [left.index(alike[board]) if board in come else None for board in range(len(looks))]
    return trimmed(joined), tuple([looks[board] for board in left]), tuple(names)


def parting_row(machine, looks, other, others):
    machine = check_machine(machine)
    looks = looks_of(machine, looks)
    another = check_machine(other)
    if len(another[1]) != len(machine[1]):
        raise Refused(other)
    others = looks_of(another, others)
    return first_parting(machine[1], looks, machine[0], another[1], others, another[0])


def look_alike(machine, looks, other, others):
    return parting_row(machine, looks, other, others) is None
