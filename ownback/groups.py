"""Which deeds are alike or commute, and whether they act freely on the boards that can come."""

from ownback.histories import check_hands
from ownback.machines import check_deed, check_machine, first_rows


def boards_sorted(machine):
    """The boards that can come, ascending; all is checked, here and below."""
    return tuple(sorted(first_rows(machine)))


def boards_alike(machine, one, other):
    first, second = machine[1][one], machine[1][other]
    return tuple([board for board in boards_sorted(machine) if first[board] == second[board]])


def boards_commuting(machine, one, other):
    first, second = machine[1][one], machine[1][other]
    return tuple([board for board in boards_sorted(machine) if second[first[board]] == first[second[board]]])


def machine_with_deeds(machine, one, other):
    machine = check_machine(machine)
    check_deed(machine, one)
    check_deed(machine, other)
    return machine


def same_boards(machine, one, other):
    return boards_alike(machine_with_deeds(machine, one, other), one, other)


def commuting_boards(machine, one, other):
    return boards_commuting(machine_with_deeds(machine, one, other), one, other)


def deeds_alike(machine, one, other):
    return same_boards(machine, one, other) == boards_sorted(check_machine(machine))


def deeds_commute(machine, one, other):
    return commuting_boards(machine, one, other) == boards_sorted(check_machine(machine))


def all_least(machine):
    """By deed the least one that is alike to it at all boards that can come."""
    come = boards_sorted(machine)
    done = [[moves[board] for board in come] for moves in machine[1]]
    return tuple([done.index(led) for led in done])


def least_deed(machine, deed):
    machine = check_machine(machine)
    check_deed(machine, deed)
    return all_least(machine)[deed]


def least_deeds(machine):
    return all_least(check_machine(machine))


def unlike_deeds(machine):
    return tuple(sorted(set(least_deeds(machine))))


def all_commuting(machine):
    """By deed, by deed, whether they commute at all boards that can come."""
    come = boards_sorted(machine)
    deeds = range(len(machine[1]))
    return tuple([tuple([boards_commuting(machine, one, other) == come for other in deeds]) for one in deeds])


def commuting_rows(machine):
    return all_commuting(check_machine(machine))


def blurred(machine, kind, boards_of):
    """All that is so at some boards that can come, but not at all of them."""
    come = boards_sorted(machine)
    found = []
    for one in range(len(machine[1])):
        for other in range(one + 1, len(machine[1])):
            boards = boards_of(machine, one, other)
            if boards != come:
                found.extend([(kind, one, other, board) for board in boards])
    return found


def all_blurs(machine, hands):
    found = blurred(machine, "alike", boards_alike)
    # One hand's deeds never change places.
    if hands > 1:
        found.extend(blurred(machine, "commuting", boards_commuting))
    return tuple(found)


def blurs(machine, hands):
    machine = check_machine(machine)
    check_hands(hands)
    return all_blurs(machine, hands)


def joined_boards(machine):
    """Two boards that can come and a deed that leads them to one, None if there are none."""
    for deed, moves in enumerate(machine[1]):
        led = {}
        for board in boards_sorted(machine):
            if moves[board] in led:
                return "joined", deed, led[moves[board]], board
            led[moves[board]] = board
    return None


def moved_board(machine):
    """A row of deeds, of fewest, that leads the start to itself, and a board that can come elsewhere, None if none."""
    start, maps = machine
    rows = {(board, start, board): () for board in first_rows(machine)}
    reached = list(rows)
    at = 0
    while at < len(reached):
        board, first, second = reached[at]
        row = rows[reached[at]]
        if first == start and second != board:
            return "moved", row, board
        for deed, moves in enumerate(maps):
            behind = (board, moves[first], moves[second])
            if behind not in rows:
                rows[behind] = row + (deed,)
                reached.append(behind)
        at += 1
    return None


def free_paper(machine):
    machine = check_machine(machine)
    joined = joined_boards(machine)
    return moved_board(machine) if joined is None else joined


def acts_freely(machine):
    return free_paper(machine) is None
