"""What values are, and how forms are read: shared by the other modules."""

from ownback.errors import BadOctets, Broken, Refused

OCTETS = 256


def is_integer(value):
    # True and False are ints to Python, but no integers here.
    return isinstance(value, int) and not isinstance(value, bool)


def is_number(value):
    return is_integer(value) and value >= 0


def is_below(value, bound):
    return is_number(value) and value < bound


def is_sequence(value):
    return isinstance(value, (list, tuple))


def is_pair(value):
    return is_sequence(value) and len(value) == 2


def are_numbers(value):
    return is_sequence(value) and all([is_number(item) for item in value])


def are_below(value, bound):
    return is_sequence(value) and all([is_below(item, bound) for item in value])


def are_within(value, bounds):
    """Whether a value is as many numbers as there are bounds, none greater than its own."""
    if not are_numbers(value) or len(value) != len(bounds):
        return False
    return all([number <= bound for number, bound in zip(value, bounds)])


def ascends(row):
    return all([row[at] < row[at + 1] for at in range(len(row) - 1)])


def never_falls(row):
    return all([row[at] <= row[at + 1] for at in range(len(row) - 1)])


def as_rows(rows):
    return tuple([tuple(row) for row in rows])


def check_octets(octets):
    if not is_sequence(octets):
        raise BadOctets(-1)
    for at, item in enumerate(octets):
        if not is_below(item, OCTETS):
            raise BadOctets(at)
    return tuple(octets)


def check_octets_at(octets, at):
    octets = check_octets(octets)
    if not is_number(at):
        raise Refused(at)
    return octets


def begun_at(octets, at, span_behind):
    """How far a form stands from a place on: its octets, and the span of the next one, None if it is whole.

    span_behind tells, of the octets of a form that is begun, (least, bound) of the octet behind them.
    """
    begun = []
    span = span_behind(begun)
    while span is not None and at + len(begun) < len(octets):
        octet = octets[at + len(begun)]
        if octet < span[0] or octet >= span[1]:
            raise Broken(at + len(begun))
        begun.append(octet)
        span = span_behind(begun)
    return begun, span


def form_at(octets, at, span_behind):
    """The octets of the whole form that begins at a place."""
    begun, span = begun_at(octets, at, span_behind)
    if span is not None:
        raise Broken(len(octets))
    return begun
