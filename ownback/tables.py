"""Tables: by all vectors of counts the board behind so many first deeds of each hand."""

from ownback.checks import are_below, are_numbers, are_within, is_below, is_pair
from ownback.errors import BadTable, NoHand, Refused
from ownback.forms import HANDS
from ownback.histories import check_hands, check_history
from ownback.machines import BOARDS, check_deed, check_machine


def are_counts(value):
    return are_numbers(value) and 1 <= len(value) <= HANDS


def check_counts(counts):
    if not are_counts(counts):
        raise Refused(counts)
    return tuple(counts)


def size_of(counts):
    """How many vectors there are; counts and all else is checked, here and in all that returns places."""
    size = 1
    for many in counts:
        size = size * (many + 1)
    return size


def stride_of(counts, hand):
    """How far apart the places of two vectors are of which one has a deed of the hand more."""
    return size_of(counts[hand + 1:])


def moved(counts, hand, by):
    return counts[:hand] + (counts[hand] + by,) + counts[hand + 1:]


def only(counts, hand):
    """These counts of one hand, and none of the others."""
    return tuple([many if place == hand else 0 for place, many in enumerate(counts)])


def places_between(counts, low, high):
    """The places of all vectors that are, hand by hand, from the low one to the high one, ascending."""
    places = [0]
    for many, least, greatest in zip(counts, low, high):
        places = [place * (many + 1) + number for place in places for number in range(least, greatest + 1)]
    return places


def place_in(counts, vector):
    return places_between(counts, vector, vector)[0]


def vectors_of(counts):
    found = [()]
    for many in counts:
        found = [vector + (number,) for vector in found for number in range(many + 1)]
    return tuple(found)


def vectors(counts):
    return vectors_of(check_counts(counts))


def check_vector(counts, vector):
    if not are_within(vector, counts):
        raise Refused(vector)
    return tuple(vector)


def place_of(counts, vector):
    counts = check_counts(counts)
    return place_in(counts, check_vector(counts, vector))


def as_table(value, many):
    """Any value as a table of a machine with so many boards."""
    if not is_pair(value):
        raise BadTable(-1)
    counts, entries = value
    if not are_counts(counts):
        raise BadTable(0)
    if not are_below(entries, many) or len(entries) != size_of(counts):
        raise BadTable(1)
    return tuple(counts), tuple(entries)


def machine_and_table(machine, table):
    machine = check_machine(machine)
    return machine, as_table(table, len(machine[1][0]))


def check_table(machine, value):
    return machine_and_table(machine, value)[1]


def check_hand(table, hand):
    if not is_below(hand, len(table[0])):
        raise NoHand(hand)


def entry(table, vector):
    counts, entries = as_table(table, BOARDS)
    return entries[place_in(counts, check_vector(counts, vector))]


def top_board(table):
    return as_table(table, BOARDS)[1][-1]


def part_up_to(table, vector):
    counts, entries = table
    places = places_between(counts, (0,) * len(counts), vector)
    return vector, tuple([entries[place] for place in places])


def part_of(table, vector):
    table = as_table(table, BOARDS)
    return part_up_to(table, check_vector(table[0], vector))


def rim(table, hand):
    table = as_table(table, BOARDS)
    check_hand(table, hand)
    return part_up_to(table, only(table[0], hand))[1]


def empty_table(machine, hands):
    return (0,) * hands, (machine[0],)


def first_table(machine, hands):
    machine = check_machine(machine)
    check_hands(hands)
    return empty_table(machine, hands)


def led_on(machine, table, hand, deed):
    """The table behind a deed: behind each run of a hand's numbers stands one more, led on from the last."""
    counts, entries = table
    moves = machine[1][deed]
    stride = stride_of(counts, hand)
    run = stride * (counts[hand] + 1)
    grown = []
    for at in range(run, len(entries) + 1, run):
        grown.extend(entries[at - run:at])
        grown.extend([moves[board] for board in entries[at - stride:at]])
    return moved(counts, hand, 1), tuple(grown)


def with_deed(machine, table, hand, deed):
    machine, table = machine_and_table(machine, table)
    check_hand(table, hand)
    check_deed(machine, deed)
    return led_on(machine, table, hand, deed)


def with_back(table, hand):
    table = as_table(table, BOARDS)
    check_hand(table, hand)
    if table[0][hand] == 0:
        raise Refused(hand)
    return part_up_to(table, moved(table[0], hand, -1))


def table_behind(machine, hands, history):
    table = empty_table(machine, hands)
    for hand, deed in history:
        table = led_on(machine, table, hand, deed)
    return table


def table_of(machine, hands, history):
    machine = check_machine(machine)
    return table_behind(machine, hands, check_history(machine, hands, history))


def alike(machine, hands, one, other):
    return table_of(machine, hands, one) == table_of(machine, hands, other)
