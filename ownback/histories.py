"""Histories: the deeds that stand, what presses make of them, and their beginnings."""

from ownback.checks import are_within, as_rows, is_below, is_number, is_pair, is_sequence
from ownback.errors import BadHistory, NoHand, Refused, TooGreat
from ownback.forms import DEEDS, HANDS, check_press
from ownback.machines import check_deed, check_machine


def check_hands(hands):
    if not is_number(hands) or not 1 <= hands <= HANDS:
        raise Refused(hands)


def is_letter(value, hands, many):
    return is_pair(value) and is_below(value[0], hands) and is_below(value[1], many)


def is_history(value, hands, many):
    """Whether any value is a history of so many hands, of a machine with so many deeds."""
    return is_sequence(value) and all([is_letter(item, hands, many) for item in value])


def as_history(value, hands, many):
    """Any value as such a history."""
    if not is_sequence(value):
        raise BadHistory(-1)
    for at, item in enumerate(value):
        if not is_letter(item, hands, many):
            raise BadHistory(at)
    return as_rows(value)


def check_history(machine, hands, value):
    machine = check_machine(machine)
    check_hands(hands)
    return as_history(value, hands, len(machine[1]))


def check_two(machine, hands, one, other):
    """The machine, and two histories."""
    machine = check_machine(machine)
    return machine, check_history(machine, hands, one), check_history(machine, hands, other)


def standing(hands, history):
    """By hand how many deeds stand; all is checked, here and below."""
    many = [0] * hands
    for hand, _ in history:
        many[hand] += 1
    return tuple(many)


def counts_of(hands, history):
    check_hands(hands)
    return standing(hands, as_history(history, hands, DEEDS))


def boards_behind(machine, history):
    shown = [machine[0]]
    for _, deed in history:
        shown.append(machine[1][deed][shown[-1]])
    return tuple(shown)


def boards(machine, history):
    machine = check_machine(machine)
    return boards_behind(machine, as_history(history, HANDS, len(machine[1])))


def board_of(machine, history):
    return boards(machine, history)[-1]


def first_letters(history, vector):
    """So many first letters of each hand, as they stand."""
    left = list(vector)
    begun = []
    for hand, deed in history:
        if left[hand] > 0:
            left[hand] -= 1
            begun.append((hand, deed))
    return tuple(begun)


def check_within(hands, history, vector):
    """As many numbers as there are hands, none greater than what stands of its hand."""
    if not are_within(vector, standing(hands, history)):
        raise Refused(vector)
    return tuple(vector)


def beginning(machine, hands, history, vector):
    history = check_history(machine, hands, history)
    return first_letters(history, check_within(hands, history, vector))


def has_deed(history, hand):
    return any([letter[0] == hand for letter in history])


def without_last(history, hand):
    """The history without the last deed of a hand that has one."""
    last = max([at for at, letter in enumerate(history) if letter[0] == hand])
    return history[:last] + history[last + 1:]


def check_hand_below(hands, hand):
    if hand >= hands:
        raise NoHand(hand)


def press_told(machine, hands, press):
    """A press of one of these hands, with a deed of the machine: whether it can be made is still to be seen."""
    told = check_press(press)
    check_hand_below(hands, told[1])
    if told[0] == "deed":
        check_deed(machine, told[2])
    return told


def press_made(machine, hands, history, press):
    """The history behind a press, which alone is still to be checked."""
    told = press_told(machine, hands, press)
    if told[0] == "deed":
        return history + (told[1:],)
    if not has_deed(history, told[1]):
        raise Refused(press)
    return without_last(history, told[1])


def pressed(machine, hands, history, press):
    machine = check_machine(machine)
    history = check_history(machine, hands, history)
    return press_made(machine, hands, history, press)


def histories_made(machine, hands, presses):
    """The histories ahead of the first of these presses and behind each; the machine is a checked one."""
    check_hands(hands)
    if not is_sequence(presses):
        raise Refused(presses)
    made = [()]
    for press in presses:
        made.append(press_made(machine, hands, made[-1], press))
    return made


def check_presses(machine, hands, presses):
    histories_made(check_machine(machine), hands, presses)
    return as_rows(presses)


def history_of(machine, hands, presses):
    return histories_made(check_machine(machine), hands, presses)[-1]


def boards_shown(machine, hands, presses):
    machine = check_machine(machine)
    made = histories_made(machine, hands, presses)
    return tuple([boards_behind(machine, history)[-1] for history in made])


def struck(machine, hands, presses):
    presses = check_presses(machine, hands, presses)
    places = [[] for _ in range(hands)]
    found = []
    for at, press in enumerate(presses):
        hand = press[1]
        if press[0] == "deed":
            places[hand].append(at)
        else:
            found.append((places[hand].pop(), at))
    return tuple(sorted(found))


def pairs_behind(machine, hands, pair):
    """The pairs of histories behind each press that can be made at both."""
    one, other = pair
    found = []
    for hand in range(hands):
        for deed in range(len(machine[1])):
            letter = (hand, deed)
            found.append((one + (letter,), other + (letter,)))
        if has_deed(one, hand) and has_deed(other, hand):
            found.append((without_last(one, hand), without_last(other, hand)))
    return found


def pairs_within(machine, hands, pair, many, most):
    """All pairs to which at most so many presses lead."""
    found = {pair: True}
    layer = [pair]
    for _ in range(many):
        behind = []
        for reached in layer:
            for after in pairs_behind(machine, hands, reached):
                if after not in found:
                    found[after] = True
                    behind.append(after)
            if len(found) > most:
                raise TooGreat(most)
        layer = behind
    return list(found)


def shows_one(machine, hands, pair):
    one, other = pair
    if standing(hands, one) != standing(hands, other):
        return False
    return boards_behind(machine, one)[-1] == boards_behind(machine, other)[-1]


def alike_for(machine, hands, one, other, many, *, most):
    machine, one, other = check_two(machine, hands, one, other)
    if not is_number(many):
        raise Refused(many)
    if not is_number(most) or most < 1:
        raise Refused(most)
    pairs = pairs_within(machine, hands, (one, other), many, most)
    return all([shows_one(machine, hands, pair) for pair in pairs])
