"""Ways: orders of two hands, by the places of hand 0 how many deeds of hand 1 stand ahead."""

from ownback.antimatroid import history_in_order
from ownback.checks import are_below, are_numbers, is_number, never_falls
from ownback.errors import Refused
from ownback.lasts import has_history, last_at
from ownback.tables import machine_and_table, moved


def is_rising(value):
    return are_numbers(value) and never_falls(value)


def way_in(order):
    """All is checked, here and below."""
    ahead = 0
    way = []
    for hand in order:
        if hand == 0:
            way.append(ahead)
        else:
            ahead += 1
    return tuple(way)


def way_of(order):
    if not are_below(order, 2):
        raise Refused(order)
    return way_in(order)


def order_by(way, many):
    order = []
    ahead = 0
    for number in way:
        order.extend([1] * (number - ahead) + [0])
        ahead = number
    return tuple(order + [1] * (many - ahead))


def way_order(way, many):
    if not is_rising(way):
        raise Refused(way)
    if not is_number(many) or (len(way) > 0 and many < way[-1]):
        raise Refused(many)
    return order_by(way, many)


def told_of_two(machine, table):
    """The machine, and the table of two hands that some history has."""
    machine, told = machine_and_table(machine, table)
    if len(told[0]) != 2 or not has_history(machine, told):
        raise Refused(table)
    return machine, told


def order_taken_off(machine, table, sooner, later):
    """The order got from the end on, where the one hand's deeds are taken off as soon as they can be last."""
    left = table[0]
    order = []
    while any(left):
        hand = sooner if last_at(machine, table, left, sooner) else later
        left = moved(left, hand, -1)
        order.append(hand)
    return tuple(order[::-1])


def least_way(machine, table):
    machine, table = told_of_two(machine, table)
    return way_in(order_taken_off(machine, table, 1, 0))


def greatest_way(machine, table):
    machine, table = told_of_two(machine, table)
    return way_in(order_taken_off(machine, table, 0, 1))


def history_of_way(machine, table, way):
    """The history by least deeds, None for any value that is no way of the table."""
    mine, others = table[0]
    if not is_rising(way) or len(way) != mine or (mine > 0 and way[-1] > others):
        return None
    return history_in_order(machine, table, order_by(way, others))


def is_way(machine, table, value):
    machine, table = told_of_two(machine, table)
    return history_of_way(machine, table, value) is not None


def way_history(machine, table, way):
    machine, table = told_of_two(machine, table)
    history = history_of_way(machine, table, way)
    if history is None:
        raise Refused(way)
    return history


def check_two_ways(one, other):
    if not is_rising(one):
        raise Refused(one)
    if not is_rising(other) or len(other) != len(one):
        raise Refused(other)


def lower_way(one, other):
    check_two_ways(one, other)
    return tuple([min(left, right) for left, right in zip(one, other)])


def upper_way(one, other):
    check_two_ways(one, other)
    return tuple([max(left, right) for left, right in zip(one, other)])


def ways_many(low, high):
    check_two_ways(low, high)
    if any([least > greatest for least, greatest in zip(low, high)]):
        raise Refused(high)
    # By its last number how many rows there are so far; at first one row, as if it ended with 0.
    many = {0: 1}
    for least, greatest in zip(low, high):
        rows = sum([many[number] for number in many if number < least])
        longer = {}
        for number in range(least, greatest + 1):
            rows += many.get(number, 0)
            longer[number] = rows
        many = longer
    return sum(list(many.values()))
