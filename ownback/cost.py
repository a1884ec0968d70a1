"""What other hands cost: kinds of histories beside those of each hand alone."""

from ownback.checks import is_pair
from ownback.counts import kinds_within
from ownback.histories import check_hands, is_history
from ownback.machines import check_machine, first_rows
from ownback.tables import check_counts, only, part_up_to, table_behind


def kinds_beside(machine, counts, *, most):
    machine = check_machine(machine)
    counts = check_counts(counts)
    kinds = kinds_within(machine, counts, most)
    alone = 1
    for hand in range(len(counts)):
        alone = alone * kinds[only(counts, hand)]
    return kinds[counts], alone


def first_unlike_orders(machine, board):
    """The least two deeds that do not commute at a board, None if any two do; the machine is a checked one."""
    maps = machine[1]
    for one, moves in enumerate(maps):
        for other in range(one + 1, len(maps)):
            if maps[other][moves[board]] != moves[maps[other][board]]:
                return one, other
    return None


def clash(machine):
    machine = check_machine(machine)
    # The boards that can come stand in the order of the rows that lead there.
    for board, row in first_rows(machine).items():
        deeds = first_unlike_orders(machine, board)
        if deeds is not None:
            return row, deeds[0], deeds[1]
    return None


def costs_nothing(machine):
    return clash(machine) is None


def two_of_one_rim(machine):
    found = clash(machine)
    if found is None:
        return None
    ahead = tuple([(0, deed) for deed in found[0]])
    mine, others = (0, found[1]), (1, found[2])
    return ahead + (mine, others), ahead + (others, mine)


def rims_of(table):
    """By hand the boards where no deed of any other hand stands."""
    counts = table[0]
    return [part_up_to(table, only(counts, hand))[1] for hand in range(len(counts))]


def rims_hold(machine, hands, value):
    machine = check_machine(machine)
    check_hands(hands)
    if not is_pair(value) or not all([is_history(history, hands, len(machine[1])) for history in value]):
        return False
    one, other = [table_behind(machine, hands, history) for history in value]
    return one[0] == other[0] and rims_of(one) == rims_of(other) and one != other
