"""Presses, and their forms in octets."""

from ownback.checks import begun_at, check_octets, check_octets_at, form_at, is_below, is_sequence
from ownback.errors import BadHistory, Refused

HANDS = 4
DEEDS = 6
BACK = 0
DEED = 1


def is_press(value):
    if not is_sequence(value):
        return False
    if len(value) == 2:
        return value[0] == "back" and is_below(value[1], HANDS)
    if len(value) == 3:
        return value[0] == "deed" and is_below(value[1], HANDS) and is_below(value[2], DEEDS)
    return False


def check_press(value):
    if not is_press(value):
        raise Refused(value)
    return tuple(value)


def octets_of_press(press):
    if press[0] == "back":
        return (BACK, press[1])
    return (DEED, press[1], press[2])


def press_octets(press):
    return octets_of_press(check_press(press))


def write_presses(presses):
    if not is_sequence(presses):
        raise BadHistory(-1)
    octets = []
    for at, press in enumerate(presses):
        if not is_press(press):
            raise BadHistory(at)
        octets.extend(octets_of_press(press))
    return tuple(octets)


def span_in_press(begun):
    """The span of the octet behind those of a form that is begun, None if the form is whole."""
    if len(begun) == 0:
        return (BACK, DEED + 1)
    if len(begun) == 1:
        return (0, HANDS)
    if len(begun) == 2 and begun[0] == DEED:
        return (0, DEEDS)
    return None


def press_of_form(form):
    if form[0] == BACK:
        return ("back", form[1])
    return ("deed", form[1], form[2])


def press_at(octets, at):
    octets = check_octets_at(octets, at)
    form = form_at(octets, at, span_in_press)
    return press_of_form(form), at + len(form)


def whole_presses(octets, at):
    """From a place on the presses that are whole, and the place behind them."""
    presses = []
    begun, span = begun_at(octets, at, span_in_press)
    while span is None:
        presses.append(press_of_form(begun))
        at += len(begun)
        begun, span = begun_at(octets, at, span_in_press)
    return tuple(presses), at


def read_presses(octets):
    return whole_presses(check_octets(octets), 0)


def healing(octets):
    octets = check_octets(octets)
    behind = whole_presses(octets, 0)[1]
    if behind == len(octets):
        return ()
    begun = list(octets[behind:])
    span = span_in_press(begun)
    while span is not None:
        begun.append(span[0])
        span = span_in_press(begun)
    return tuple(begun[len(octets) - behind:])
