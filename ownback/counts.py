"""How many kinds of histories there are: words of the finite machine, counted."""

from ownback.checks import is_number
from ownback.corners import Atlas
from ownback.errors import Refused
from ownback.finite import atlas_of, least_words
from ownback.machines import check_machine
from ownback.tables import check_counts, moved, vectors_of
from ownback.weights import reduced


def rows_within(atlas, counts):
    """By vector of the counts by situation how many normal histories lead there."""
    rows = {vector: {} for vector in vectors_of(counts)}
    rows[(0,) * len(counts)][0] = 1
    for vector in vectors_of(counts):
        here = list(rows[vector].items())
        for hand in range(len(counts)):
            if vector[hand] < counts[hand]:
                behind = rows[moved(vector, hand, 1)]
                for number, many in here:
                    for _, led in atlas.steps_of(number, hand):
                        behind[led] = behind.get(led, 0) + many
    return rows


def kinds_within(machine, counts, most):
    """By vector of checked counts how many kinds there are; the machine is a checked one, too."""
    rows = rows_within(Atlas(machine, len(counts), most), counts)
    return {vector: sum(list(rows[vector].values())) for vector in rows}


def count(machine, counts, *, most):
    machine = check_machine(machine)
    counts = check_counts(counts)
    return kinds_within(machine, counts, most)[counts]


def count_table(machine, counts, *, most):
    machine = check_machine(machine)
    counts = check_counts(counts)
    return tuple(list(kinds_within(machine, counts, most).values()))


def hand_matrix(steps, hand):
    """By state, by state how many letters of a hand lead from the one to the other."""
    rows = []
    for ahead in steps:
        row = [0] * len(steps)
        for letter, behind in ahead:
            if letter[0] == hand:
                row[behind] += 1
        rows.append(tuple(row))
    return tuple(rows)


def count_matrix(machine, hands, *, most):
    steps = least_words(atlas_of(machine, hands, most))[2]
    return tuple([hand_matrix(steps, hand) for hand in range(hands)])


def words_by_length(words, last):
    """How many words of a checked words machine have 0, 1, .., up to last letters."""
    many, first, steps = words
    ending = [0] * many
    ending[first] = 1
    found = [1]
    for _ in range(last):
        longer = [0] * many
        for state, row in enumerate(steps):
            for _, behind in row:
                longer[behind] += ending[state]
        ending = longer
        found.append(sum(ending))
    return tuple(found)


def totals(machine, hands, last, *, most):
    atlas = atlas_of(machine, hands, most)
    if not is_number(last):
        raise Refused(last)
    return words_by_length(least_words(atlas), last)


def bent(row, gap, before, gap_before, shift):
    """A row that goes on right where this one first goes wrong, as an earlier one did so many places ago."""
    size = max(len(row), len(before) + shift)
    ours = row + [0] * (size - len(row))
    theirs = [0] * shift + before + [0] * (size - shift - len(before))
    return reduced([gap_before * one - gap * other for one, other in zip(ours, theirs)])


def shortest_recurrence(numbers):
    """The shortest row of integers by which each of these numbers hangs on those ahead of it (Berlekamp, Massey).

    Rows tell what sums up to 0: so many times a number, so many times the one ahead of it, and so on. No fraction is
    needed, as each row may be taken so many times.
    """
    row, before = [1], [1]
    shift, gap_before = 1, 1
    for at in range(len(numbers)):
        gap = sum([many * numbers[at - back] for back, many in enumerate(row) if back <= at])
        if gap != 0:
            longer = bent(row, gap, before, gap_before, shift)
            if len(longer) > len(row):
                before, gap_before, shift = row, gap, 0
            row = longer
        shift += 1
    # By Fatou's theorem the first of these integers, which have no common divisor, is 1 or -1.
    return tuple([-many // row[0] for many in row[1:]])


def recurrence(machine, hands, *, most):
    words = least_words(atlas_of(machine, hands, most))
    return shortest_recurrence(words_by_length(words, 2 * words[0]))
