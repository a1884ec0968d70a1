"""Boards of which looks are seen: histories as they are seen, and how presses part them."""

from ownback.checks import is_sequence
from ownback.counts import count
from ownback.errors import Refused
from ownback.histories import boards_behind, check_history, press_made
from ownback.looks import first_parting, least_machine, looks_of
from ownback.machines import check_machine
from ownback.normal import normal_behind
from ownback.parting import backs_to
from ownback.tables import table_behind, vectors_of


def looks_and_history(machine, looks, hands, history):
    """Looks and a history of a checked machine."""
    looks = looks_of(machine, looks)
    return looks, check_history(machine, hands, history)


def least_seen(machine, looks):
    return least_machine(machine, looks)[0]


def seen_table(machine, looks, hands, history):
    machine = check_machine(machine)
    looks, history = looks_and_history(machine, looks, hands, history)
    return table_behind(least_seen(machine, looks), hands, history)


def seen_alike(machine, looks, hands, one, other):
    return seen_table(machine, looks, hands, one) == seen_table(machine, looks, hands, other)


def seen_normal(machine, looks, hands, history):
    machine = check_machine(machine)
    looks, history = looks_and_history(machine, looks, hands, history)
    return normal_behind(least_seen(machine, looks), hands, history)


def seen_count(machine, looks, counts, *, most):
    machine = check_machine(machine)
    return count(least_seen(machine, looks_of(machine, looks)), counts, most=most)


def looks_shown(machine, looks, hands, history, presses):
    machine = check_machine(machine)
    looks, history = looks_and_history(machine, looks, hands, history)
    if not is_sequence(presses):
        raise Refused(presses)
    shown = [looks[boards_behind(machine, history)[-1]]]
    for press in presses:
        history = press_made(machine, hands, history, press)
        shown.append(looks[boards_behind(machine, history)[-1]])
    return tuple(shown)


def boards_apart(one, other):
    """By pair of unlike boards that two tables have at one vector the first such vector with the greatest sum."""
    found = {}
    for vector, left, right in zip(vectors_of(one[0]), one[1], other[1]):
        pair = (left, right)
        if left != right and (pair not in found or sum(vector) > sum(found[pair])):
            found[pair] = vector
    return found


def presses_apart(machine, looks, one, other):
    """Some fewest presses behind which two tables with the same counts are seen to be unlike, None if none are."""
    maps = machine[1]
    best = None
    for (left, right), vector in boards_apart(one, other).items():
        row = first_parting(maps, looks, left, maps, looks, right)
        if row is not None:
            presses = backs_to(one[0], vector) + tuple([("deed", 0, deed) for deed in row])
            if best is None or len(presses) < len(best):
                best = presses
    return best


def seen_parting(machine, looks, hands, one, other):
    machine = check_machine(machine)
    looks, one = looks_and_history(machine, looks, hands, one)
    other = check_history(machine, hands, other)
    one, other = [table_behind(machine, hands, history) for history in (one, other)]
    if one[0] != other[0]:
        return ()
    return presses_apart(machine, looks, one, other)
