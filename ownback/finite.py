"""Corners, situations, and the finite machine of which the normal histories are the words."""

from ownback.checks import are_below, are_numbers, ascends, is_below, is_number, is_pair, is_sequence
from ownback.corners import Atlas
from ownback.errors import Refused
from ownback.histories import check_hands, check_history
from ownback.machines import check_machine
from ownback.tables import places_between, stride_of, table_behind

STATES = 2000


def check_hand_lot(hands, lot):
    if not are_below(lot, hands) or not ascends(lot):
        raise Refused(lot)


def corner_places(counts, lot):
    """The places in a table of all beginnings that have all deeds of the hands of a lot."""
    low = [many if hand in lot else 0 for hand, many in enumerate(counts)]
    return places_between(counts, low, counts)


def corner_boards(machine, hands, history, lot):
    machine = check_machine(machine)
    history = check_history(machine, hands, history)
    check_hand_lot(hands, lot)
    counts, entries = table_behind(machine, hands, history)
    return tuple(sorted({entries[place] for place in corner_places(counts, lot)}))


def corner_pairs(machine, hands, history, hand, lot):
    machine = check_machine(machine)
    history = check_history(machine, hands, history)
    counts, entries = table_behind(machine, hands, history)
    if not is_below(hand, hands) or counts[hand] == 0:
        raise Refused(hand)
    check_hand_lot(hands, lot)
    stride = stride_of(counts, hand)
    places = corner_places(counts, list(lot) + [hand])
    return tuple(sorted({(entries[place - stride], entries[place]) for place in places}))


def atlas_of(machine, hands, most):
    machine = check_machine(machine)
    check_hands(hands)
    return Atlas(machine, hands, most)


def situations(machine, hands, *, most):
    steps = atlas_of(machine, hands, most).all_steps()
    return len(steps), 0, steps


def numbered_alike(steps):
    """By state the number of those that go on alike; these numbers in the order of their first states."""
    alike = [0] * len(steps)
    many = 1
    while True:
        # What goes on unlike by the states told apart so far is told apart from now on, too.
        found = {}
        for state, row in enumerate(steps):
            found.setdefault(tuple([(letter, alike[behind]) for letter, behind in row]), []).append(state)
        for number, states in enumerate(list(found.values())):
            for state in states:
                alike[state] = number
        if len(found) == many:
            return alike
        many = len(found)


def least_steps(steps):
    """The steps of the machine with the fewest states, numbered as they are come to, as the given ones are."""
    alike = numbered_alike(steps)
    least = []
    for state, row in enumerate(steps):
        if alike[state] == len(least):
            least.append(tuple([(letter, alike[behind]) for letter, behind in row]))
    return tuple(least)


def least_words(atlas):
    steps = least_steps(atlas.all_steps())
    return len(steps), 0, steps


def finite_machine(machine, hands, *, most):
    return least_words(atlas_of(machine, hands, most))


def are_letters(value):
    return is_sequence(value) and all([is_pair(letter) and are_numbers(letter) for letter in value])


def are_steps(value, many):
    """Whether any value is the steps of one of so many states."""
    if not is_sequence(value) or not all([is_pair(step) and is_below(step[1], many) for step in value]):
        return False
    letters = [step[0] for step in value]
    return are_letters(letters) and ascends([tuple(letter) for letter in letters])


def check_words(value):
    if not is_sequence(value) or len(value) != 3:
        raise Refused(value)
    many, first, steps = value
    if not is_number(many) or not 1 <= many <= STATES or not is_below(first, many):
        raise Refused(value)
    if not is_sequence(steps) or len(steps) != many or not all([are_steps(row, many) for row in steps]):
        raise Refused(value)
    return many, first, tuple([tuple([(tuple(letter), behind) for letter, behind in row]) for row in steps])


def state_behind(finite, history):
    _, state, steps = check_words(finite)
    if not are_letters(history):
        raise Refused(history)
    for letter in history:
        if state is not None:
            state = dict(steps[state]).get(tuple(letter))
    return state


def leader(joined, state):
    """The one state that stands for all that were joined with this one."""
    while joined[state] != state:
        joined[state] = joined[joined[state]]
        state = joined[state]
    return state


def pairs_ahead(left, right):
    """Ascending (letter, state, state) of the letters that lead on from both of two states."""
    ahead = dict(right)
    return [(letter, behind, ahead[letter]) for letter, behind in left if letter in ahead]


def letters_alone(left, right):
    """Ascending the letters that lead on from just one of two states."""
    mine, others = dict(left), dict(right)
    alone = [letter for letter in mine if letter not in others]
    return sorted(alone + [letter for letter in others if letter not in mine])


def first_parting(steps, one, other):
    """The first row of letters that leads on from just one of two states, None if there is none.

    Of a pair of states that are joined already some pair that came earlier is parted by the same letters: so what
    stands behind it is never the first.
    """
    joined = list(range(len(steps)))
    pairs = [(one, other, ())]
    at = 0
    while at < len(pairs):
        left, right, row = pairs[at]
        alone = letters_alone(steps[left], steps[right])
        if alone:
            return row + (alone[0],)
        for letter, near, far in pairs_ahead(steps[left], steps[right]):
            near_leader, far_leader = leader(joined, near), leader(joined, far)
            if near_leader != far_leader:
                joined[near_leader] = far_leader
                pairs.append((near, far, row + (letter,)))
        at += 1
    return None


def parting_history(finite, one, other):
    many, _, steps = check_words(finite)
    if not is_below(one, many):
        raise Refused(one)
    if not is_below(other, many):
        raise Refused(other)
    return first_parting(steps, one, other)
