"""Last deeds: whose last deed can be last in a table, and which tables some history has."""

from ownback.checks import are_within
from ownback.errors import Refused
from ownback.lots import deeds_doing
from ownback.tables import check_hand, machine_and_table, moved, only, places_between, stride_of


def next_deeds(machine, table, done, hand):
    """The deeds that lead each beginning up to those done, with all of the hand's, as its next deed leads it.

    All is checked, here and in what hangs on it.
    """
    counts, entries = table
    places = places_between(counts, only(done, hand), done)
    stride = stride_of(counts, hand)
    return deeds_doing(machine, sorted({(entries[place], entries[place + stride]) for place in places}))


def last_at(machine, table, counts, hand):
    """The deeds by which a hand's last one can be last in the table of the beginnings up to these counts."""
    if counts[hand] == 0:
        return ()
    return next_deeds(machine, table, moved(counts, hand, -1), hand)


def taken_off(machine, table):
    """What is left over."""
    left = table[0]
    hand = 0
    while hand < len(left):
        if last_at(machine, table, left, hand):
            left = moved(left, hand, -1)
            hand = 0
        else:
            hand += 1
    return left


def has_history(machine, table):
    return not any(taken_off(machine, table)) and table[1][0] == machine[0]


def last_deeds(machine, table, hand):
    machine, table = machine_and_table(machine, table)
    check_hand(table, hand)
    if table[0][hand] == 0:
        raise Refused(hand)
    return last_at(machine, table, table[0], hand)


def lasts(machine, table):
    machine, table = machine_and_table(machine, table)
    found = []
    for hand in range(len(table[0])):
        deeds = last_at(machine, table, table[0], hand)
        if deeds:
            found.append((hand, deeds[0]))
    return tuple(found)


def left_over(machine, table):
    machine, table = machine_and_table(machine, table)
    return taken_off(machine, table)


def is_told(machine, table):
    machine, table = machine_and_table(machine, table)
    return has_history(machine, table)


def bars(machine, table, value):
    machine, table = machine_and_table(machine, table)
    if not are_within(value, table[0]):
        return False
    counts = tuple(value)
    if not any(counts):
        return table[1][0] != machine[0]
    return not any([last_at(machine, table, counts, hand) for hand in range(len(counts))])


def barring(machine, table):
    machine, table = machine_and_table(machine, table)
    if has_history(machine, table):
        return None
    return taken_off(machine, table)
