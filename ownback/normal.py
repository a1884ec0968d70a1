"""Normal histories: of each table's histories the one that ends with the greatest hand, the least deed."""

from ownback.errors import Refused
from ownback.histories import check_history, pressed
from ownback.lasts import last_at
from ownback.machines import check_machine
from ownback.tables import machine_and_table, moved, table_behind


def last_letter(machine, table, counts):
    """The last letter of the normal history of the beginnings up to these counts, None if no hand can be last.

    All is checked, here and below.
    """
    for hand in reversed(range(len(counts))):
        deeds = last_at(machine, table, counts, hand)
        if deeds:
            return hand, deeds[0]
    return None


def normal_row(machine, table):
    """The normal history of a table, None if it is no history's."""
    left = table[0]
    letters = []
    while any(left):
        letter = last_letter(machine, table, left)
        if letter is None:
            return None
        letters.append(letter)
        left = moved(left, letter[0], -1)
    return tuple(letters[::-1]) if table[1][0] == machine[0] else None


def normal_behind(machine, hands, history):
    return normal_row(machine, table_behind(machine, hands, history))


def normal(machine, table):
    machine, told = machine_and_table(machine, table)
    row = normal_row(machine, told)
    if row is None:
        raise Refused(table)
    return row


def normal_of(machine, hands, history):
    machine = check_machine(machine)
    return normal_behind(machine, hands, check_history(machine, hands, history))


def is_normal(machine, hands, history):
    machine = check_machine(machine)
    history = check_history(machine, hands, history)
    return normal_behind(machine, hands, history) == history


def renewed(machine, hands, history, press):
    machine = check_machine(machine)
    return normal_behind(machine, hands, pressed(machine, hands, history, press))
