"""Settled deeds: no back can take them any more, and some of them can go into the start board."""

from ownback.errors import Refused
from ownback.histories import check_history, check_two, check_within, press_made, standing
from ownback.lasts import has_history
from ownback.machines import check_machine
from ownback.normal import normal_row
from ownback.tables import places_between, table_behind, vectors_of


def settled_pressed(machine, hands, history, settled, press):
    machine = check_machine(machine)
    history = check_history(machine, hands, history)
    settled = check_within(hands, history, settled)
    behind = press_made(machine, hands, history, press)
    if press[0] == "back" and standing(hands, history)[press[1]] == settled[press[1]]:
        raise Refused(press)
    return behind


def fewer_by(counts, gone):
    return tuple([many - less for many, less in zip(counts, gone)])


def seen_behind(table, settled):
    """The window of a table behind so many settled deeds; all is checked, here and below."""
    counts, entries = table
    places = places_between(counts, settled, counts)
    return fewer_by(counts, settled), tuple([entries[place] for place in places])


def window(machine, hands, history, settled):
    machine = check_machine(machine)
    history = check_history(machine, hands, history)
    settled = check_within(hands, history, settled)
    return seen_behind(table_behind(machine, hands, history), settled)


def settled_alike(machine, hands, one, other, settled):
    machine, one, other = check_two(machine, hands, one, other)
    check_within(hands, one, settled)
    settled = check_within(hands, other, settled)
    first, second = [seen_behind(table_behind(machine, hands, history), settled) for history in (one, other)]
    return first == second


def started_at(machine, table):
    """The machine that starts at the board of a table behind which nothing stands."""
    return table[1][0], machine[1]


def vectors_to_fold(machine, table, settled):
    """Ascending the vectors up to settled of which the windows are tables of histories."""
    found = []
    for vector in vectors_of(settled):
        left = seen_behind(table, vector)
        if has_history(started_at(machine, left), left):
            found.append(vector)
    return tuple(found)


def foldable(machine, hands, history, settled):
    machine = check_machine(machine)
    history = check_history(machine, hands, history)
    settled = check_within(hands, history, settled)
    return vectors_to_fold(machine, table_behind(machine, hands, history), settled)


def folded(machine, hands, history, settled):
    machine = check_machine(machine)
    history = check_history(machine, hands, history)
    settled = check_within(hands, history, settled)
    table = table_behind(machine, hands, history)
    found = vectors_to_fold(machine, table, settled)
    most = max([sum(vector) for vector in found])
    gone = [vector for vector in found if sum(vector) == most][0]
    left = seen_behind(table, gone)
    led = started_at(machine, left)
    return led, normal_row(led, left), fewer_by(settled, gone)
