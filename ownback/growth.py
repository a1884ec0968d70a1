"""Growth of words machines: how many words have so many letters, and how fast these grow."""

from math import lcm

from ownback.checks import are_numbers, is_number, is_pair, is_sequence
from ownback.counts import words_by_length
from ownback.errors import Refused
from ownback.finite import check_words
from ownback.shapes import Shape
from ownback.tables import moved
from ownback.weights import greatest_reached, in_rows, most_letters, weighed


def counted(words, last):
    words = check_words(words)
    if not is_number(last):
        raise Refused(last)
    return words_by_length(words, last)


def come_to(words):
    return Shape(check_words(words)).come()


def loops(words):
    return Shape(check_words(words)).loops()


def period_of(shape):
    many = 1
    for lot in shape.loops():
        if any([shape.letters_within(state) > 1 for state in lot]):
            return None
        many = lcm(many, len(lot))
    return many


def period(words):
    return period_of(Shape(check_words(words)))


def numbers_by_loops(shape, many):
    """By length, of so many: by size of the loop that words come by, 0 for none, how many words there are."""
    sizes = {state: len(lot) if turns else 0 for lot, turns in zip(shape.lots, shape.turning) for state in lot}
    rows = {(shape.first, sizes[shape.first]): 1}
    found = []
    for _ in range(many):
        numbers = {}
        longer = {}
        for (state, size), words in rows.items():
            numbers[size] = numbers.get(size, 0) + words
            for behind in shape.ahead[state]:
                place = (behind, sizes[behind] or size)
                longer[place] = longer.get(place, 0) + words
        found.append(numbers)
        rows = longer
    return found


def greatest_number(shape, turn):
    """The greatest number of words of one length, where no way comes by two loops and no loop has two ways through it.

    Once all that stands outside of loops is behind, the numbers of the words that come by loops of one size come again
    after so many letters more.
    """
    settled = shape.most_in_a_row([0 if turns else 1 for turns in shape.turning])
    sizes = sorted({len(lot) for lot in shape.loops()})
    found = numbers_by_loops(shape, settled + max(sizes, default=0))
    most = max([sum(list(numbers.values())) for numbers in found])
    for late in range(turn):
        most = max(most, sum([found[settled + late % size][size] for size in sizes]))
    return most


def growth(words):
    shape = Shape(check_words(words))
    turn = period_of(shape)
    if turn is None:
        return ("multiplied",)
    many = shape.most_in_a_row([1 if turns else 0 for turns in shape.turning])
    if many > 1:
        return "power", many - 1
    return "bounded", greatest_number(shape, turn)


def are_limits(value):
    return is_sequence(value) and all([limit is None or is_number(limit) for limit in value])


def steps_within(steps, place, limits):
    """Ascending (letter, place behind it); a place is a state, and by hand how many limited letters were used."""
    state, used = place
    found = []
    for letter, behind in steps[state]:
        hand = letter[0]
        if hand >= len(limits) or limits[hand] is None:
            found.append((letter, (behind, used)))
        elif used[hand] < limits[hand]:
            found.append((letter, (behind, moved(used, hand, 1))))
    return found


def limited(words, limits):
    _, first, steps = check_words(words)
    if not are_limits(limits):
        raise Refused(limits)
    found = [(first, (0,) * len(limits))]
    numbers = {found[0]: 0}
    rows = []
    while len(rows) < len(found):
        ahead = steps_within(steps, found[len(rows)], limits)
        for _, place in ahead:
            if place not in numbers:
                numbers[place] = len(found)
                found.append(place)
        rows.append(tuple([(letter, numbers[place]) for letter, place in ahead]))
    return len(rows), 0, tuple(rows)


def check_bottom(bottom):
    if not is_number(bottom) or bottom == 0:
        raise Refused(bottom)


def check_rate(top, bottom):
    if not is_number(top):
        raise Refused(top)
    check_bottom(bottom)


def rate_paper(words, top, bottom):
    words = check_words(words)
    check_rate(top, bottom)
    shape = Shape(words)
    is_reached, weights = weighed(shape.letters_between(), top, bottom)
    by_state = dict(zip(shape.come(), weights))
    told = tuple([by_state.get(state, 0) for state in range(words[0])])
    return ("reached" if is_reached else "below"), told


def rate_holds(words, top, bottom, value):
    words = check_words(words)
    check_rate(top, bottom)
    if not is_pair(value) or not are_numbers(value[1]) or len(value[1]) != words[0]:
        return False
    shape = Shape(words)
    kind, weights = value
    told = [(weights[state], sum([weights[behind] for behind in shape.ahead[state]])) for state in shape.come()]
    if kind == "below":
        return all([own > 0 and bottom * led < top * own for own, led in told])
    if kind == "reached":
        return any([own > 0 for own, _ in told]) and all([bottom * led >= top * own for own, led in told])
    return False


def rate_parts(words, bottom):
    words = check_words(words)
    check_bottom(bottom)
    matrix = Shape(words).letters_between()
    return greatest_reached(matrix, list(range(bottom * most_letters(matrix) + 1)), bottom)


def bits_in(words, length):
    words = check_words(words)
    if not is_number(length) or length == 0:
        raise Refused(length)
    shape = Shape(words)
    if not any(shape.turning):
        return None
    rows = in_rows(shape.letters_between(), length)
    tops = [1 << bits for bits in range(most_letters(rows).bit_length())]
    return greatest_reached(rows, tops, 1).bit_length() - 1
