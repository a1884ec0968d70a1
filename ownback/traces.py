"""Traces: histories of which neighbours that do not lean on one another may change places."""

from math import comb

from ownback.checks import as_rows, is_number, is_sequence
from ownback.errors import Refused, TooGreat
from ownback.groups import all_blurs, all_commuting, all_least
from ownback.histories import check_hands, check_history, check_two, is_history, is_letter
from ownback.machines import check_machine, first_rows
from ownback.tables import check_counts, vectors_of


def least_letters(machine, history):
    """All is checked, here and below."""
    least = all_least(machine)
    return tuple([(hand, least[deed]) for hand, deed in history])


def letters_of(machine, hands, history):
    machine = check_machine(machine)
    return least_letters(machine, check_history(machine, hands, history))


def leans(commuting, letter, other):
    return letter[0] == other[0] or not commuting[letter[1]][other[1]]


def leans_on_some(commuting, letter, others):
    return any([leans(commuting, letter, other) for other in others])


def check_letter(machine, hands, letter):
    if not is_letter(letter, hands, len(machine[1])):
        raise Refused(letter)


def do_lean(machine, hands, letter, other):
    machine = check_machine(machine)
    check_hands(hands)
    check_letter(machine, hands, letter)
    check_letter(machine, hands, other)
    return leans(all_commuting(machine), letter, other)


def in_steps(commuting, letters):
    """Each letter goes as far ahead as it can: just behind the last step that has one on which it leans."""
    steps = []
    for letter in letters:
        at = len(steps)
        while at > 0 and not leans_on_some(commuting, letter, steps[at - 1]):
            at -= 1
        if at == len(steps):
            steps.append([])
        steps[at].append(letter)
    return tuple([tuple(sorted(step)) for step in steps])


def steps_behind(machine, history):
    return in_steps(all_commuting(machine), least_letters(machine, history))


def trace_steps(machine, hands, history):
    machine = check_machine(machine)
    return steps_behind(machine, check_history(machine, hands, history))


def are_trace_steps(machine, hands, value):
    """Whether any value is steps into which their letters, in a row, are parted."""
    if not is_sequence(value) or not all([is_history(step, hands, len(machine[1])) for step in value]):
        return False
    steps = tuple([as_rows(step) for step in value])
    return steps_behind(machine, in_a_row(steps)) == steps


def in_a_row(steps):
    """The letters of any such steps, one behind another."""
    return tuple([tuple(letter) for step in steps for letter in step])


def is_trace(machine, hands, value):
    machine = check_machine(machine)
    check_hands(hands)
    return are_trace_steps(machine, hands, value)


def trace_history(machine, hands, steps):
    machine = check_machine(machine)
    check_hands(hands)
    if not are_trace_steps(machine, hands, steps):
        raise Refused(steps)
    return in_a_row(steps)


def of_two(letters, one, other):
    return [letter for letter in letters if letter in (one, other)]


def first_unlike_order(commuting, letters, others):
    """The least two letters that lean and do not come alike in both rows, None if there are none."""
    come = sorted(set(letters + others))
    for at, one in enumerate(come):
        for other in come[at:]:
            if leans(commuting, one, other) and of_two(letters, one, other) != of_two(others, one, other):
                return one, other
    return None


def trace_paper(machine, hands, history, other):
    machine, history, other = check_two(machine, hands, history, other)
    letters, others = least_letters(machine, history), least_letters(machine, other)
    return first_unlike_order(all_commuting(machine), letters, others)


def same_trace(machine, hands, history, other):
    machine, history, other = check_two(machine, hands, history, other)
    return steps_behind(machine, history) == steps_behind(machine, other)


def two_of_one_table(machine, blur):
    """Two histories that what is blurred makes alike, and not one trace."""
    kind, one, other, board = blur
    ahead = tuple([(0, deed) for deed in first_rows(machine)[board]])
    if kind == "alike":
        return ahead + ((0, one),), ahead + ((0, other),)
    return ahead + ((0, one), (1, other)), ahead + ((1, other), (0, one))


def traces_paper(machine, hands):
    machine = check_machine(machine)
    check_hands(hands)
    papers = [two_of_one_table(machine, blur) for blur in all_blurs(machine, hands)]
    by_length = sorted([(len(one), one, other) for one, other in papers])
    return by_length[0][1:] if by_length else None


def kinds_are_traces(machine, hands):
    return traces_paper(machine, hands) is None


def cliques(machine, most):
    """By length up to most: how many rows of unlike deeds there are of which each two commute."""
    commuting = all_commuting(machine)
    deeds = sorted(set(all_least(machine)))
    rows = [()]
    found = [1]
    for _ in range(most):
        rows = [row + (deed,) for row in rows for deed in deeds if all([commuting[deed][other] for other in row])]
        found.append(len(rows))
    return tuple(found)


def clique_counts(machine, hands):
    machine = check_machine(machine)
    check_hands(hands)
    return cliques(machine, hands)


def signed(number, size):
    return -number if size % 2 else number


def numbers_of_traces(machine, counts):
    """By vector of the counts how many traces there are."""
    rows = cliques(machine, len(counts))
    # What is told of lots of hands, with each hand's share of one deed or none, is taken off from the vectors.
    lots = [(lot, -signed(rows[sum(lot)], sum(lot))) for lot in vectors_of((1,) * len(counts)) if any(lot)]
    many = {}
    for vector in vectors_of(counts):
        terms = []
        for lot, times in lots:
            less = tuple([number - one for number, one in zip(vector, lot)])
            if less in many:
                terms.append(times * many[less])
        many[vector] = sum(terms) if any(vector) else 1
    return many


def trace_count(machine, counts):
    machine = check_machine(machine)
    counts = check_counts(counts)
    return numbers_of_traces(machine, counts)[counts]


def polynomial(machine, hands):
    return tuple([signed(comb(hands, size) * rows, size) for size, rows in enumerate(cliques(machine, hands))])


def trace_polynomial(machine, hands):
    machine = check_machine(machine)
    check_hands(hands)
    return polynomial(machine, hands)


def trace_totals(machine, hands, last):
    machine = check_machine(machine)
    check_hands(hands)
    if not is_number(last):
        raise Refused(last)
    told = polynomial(machine, hands)
    totals = [1]
    for at in range(1, last + 1):
        totals.append(-sum([told[back] * totals[at - back] for back in range(1, min(hands, at) + 1)]))
    return tuple(totals)


def steps_next(commuting, deeds, left, steps):
    """All steps that may stand behind these, with no hand's deed of which none are left."""
    found = [()]
    for hand, many in enumerate(left):
        if many > 0:
            letters = [(hand, deed) for deed in deeds]
            if steps:
                letters = [letter for letter in letters if leans_on_some(commuting, letter, steps[-1])]
            longer = [step + (letter,) for step in found for letter in letters
                      if not leans_on_some(commuting, letter, step)]
            found = found + longer
    return found[1:]


def all_traces(machine, counts):
    """By steps, ascending; what begins a trace is one itself, so no more is come to than traces of lesser counts."""
    commuting = all_commuting(machine)
    deeds = sorted(set(all_least(machine)))
    found = []
    begun = [((), counts)]
    while begun:
        steps, left = begun.pop()
        if not any(left):
            found.append(steps)
        for step in steps_next(commuting, deeds, left, steps):
            hands = [letter[0] for letter in step]
            begun.append((steps + (step,), tuple([many - hands.count(hand) for hand, many in enumerate(left)])))
    return tuple(sorted(found))


def traces_of(machine, counts, *, most):
    machine = check_machine(machine)
    counts = check_counts(counts)
    if not is_number(most) or most < 1:
        raise Refused(most)
    if numbers_of_traces(machine, counts)[counts] > most:
        raise TooGreat(most)
    return all_traces(machine, counts)
