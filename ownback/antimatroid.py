"""All histories of a table: next deeds, how many there are, their orders, their beginnings."""

from ownback.checks import are_below, is_below
from ownback.errors import Refused, TooGreat
from ownback.lasts import has_history, last_at, next_deeds
from ownback.tables import check_hand, check_vector, machine_and_table, moved, vectors_of


def step_deeds(machine, table, counts, hand):
    machine, table = machine_and_table(machine, table)
    done = check_vector(table[0], counts)
    check_hand(table, hand)
    if done[hand] == table[0][hand]:
        raise Refused(hand)
    return next_deeds(machine, table, done, hand)


def steps_at(machine, table, done):
    """By hand the deeds that may be done next; all is checked, here and below."""
    return [
        next_deeds(machine, table, done, hand) if done[hand] < many else ()
        for hand, many in enumerate(table[0])
    ]


def all_steps(machine, table):
    """By counts, ascending, the steps there."""
    return {done: steps_at(machine, table, done) for done in vectors_of(table[0])}


def rows_ahead(machine, table, steps):
    """By counts how many rows of steps lead from there to all of the table's deeds."""
    many = {}
    for done in reversed(list(steps)):
        ahead = [len(deeds) * many[moved(done, hand, 1)] for hand, deeds in enumerate(steps[done]) if deeds]
        many[done] = sum(ahead)
        if done == table[0]:
            # No row is a history where the board behind nothing is not the start.
            many[done] = 1 if table[1][0] == machine[0] else 0
    return many


def rows_in_all(machine, table, steps):
    return rows_ahead(machine, table, steps)[(0,) * len(table[0])]


def histories_many(machine, table):
    machine, table = machine_and_table(machine, table)
    return rows_in_all(machine, table, all_steps(machine, table))


def orders_many(machine, table):
    machine, table = machine_and_table(machine, table)
    steps = all_steps(machine, table)
    # Where one deed of each hand is kept, each order is one row.
    single = {done: [deeds[:1] for deeds in steps[done]] for done in steps}
    return rows_in_all(machine, table, single)


def letters_ahead(steps, many, done):
    """Ascending the letters with which histories go on, each with the counts behind it."""
    found = []
    for hand, deeds in enumerate(steps[done]):
        behind = moved(done, hand, 1)
        if deeds and many[behind] > 0:
            found.extend([((hand, deed), behind) for deed in deeds])
    return found


def letter_chosen(letters, many, number):
    """The letter with which the history of a number goes on, the counts behind it, and its number among those."""
    at = 0
    while number >= many[letters[at][1]]:
        number -= many[letters[at][1]]
        at += 1
    return letters[at][0], letters[at][1], number


def nth_history(machine, table, number):
    machine, table = machine_and_table(machine, table)
    steps = all_steps(machine, table)
    many = rows_ahead(machine, table, steps)
    done = (0,) * len(table[0])
    if not is_below(number, many[done]):
        raise Refused(number)
    history = []
    while done != table[0]:
        letter, done, number = letter_chosen(letters_ahead(steps, many, done), many, number)
        history.append(letter)
    return tuple(history)


def all_histories(machine, table, *, most):
    machine, table = machine_and_table(machine, table)
    steps = all_steps(machine, table)
    many = rows_ahead(machine, table, steps)
    none = (0,) * len(table[0])
    if many[none] > most:
        raise TooGreat(most)
    if many[none] == 0:
        return ()
    rows = [((), none)]
    for _ in range(sum(table[0])):
        rows = [
            (history + (letter,), behind)
            for history, done in rows
            for letter, behind in letters_ahead(steps, many, done)
        ]
    return tuple([history for history, _ in rows])


def history_in_order(machine, table, order):
    """Of checked others: the history by least deeds whose hands stand in this order, None if there is none."""
    counts, entries = table
    if not are_below(order, len(counts)) or entries[0] != machine[0]:
        return None
    done = (0,) * len(counts)
    history = []
    for hand in order:
        deeds = steps_at(machine, table, done)[hand]
        if not deeds:
            return None
        history.append((hand, deeds[0]))
        done = moved(done, hand, 1)
    return tuple(history) if done == counts else None


def by_order(machine, table, order):
    machine, table = machine_and_table(machine, table)
    history = history_in_order(machine, table, order)
    if history is None:
        raise Refused(order)
    return history


def is_order(machine, table, value):
    machine, table = machine_and_table(machine, table)
    return history_in_order(machine, table, value) is not None


def beginnings(machine, table):
    machine, table = machine_and_table(machine, table)
    if not has_history(machine, table):
        return ()
    # Taking off never comes to an end too early, so what it comes to is just what histories have behind them.
    found = {table[0]: True}
    left = [table[0]]
    while left:
        counts = left.pop()
        for hand in range(len(counts)):
            if last_at(machine, table, counts, hand):
                less = moved(counts, hand, -1)
                if less not in found:
                    found[less] = True
                    left.append(less)
    return tuple(sorted(found))
