"""Desks: situations led by presses; which are right, and the keeper as a desk."""

from ownback.checks import are_below, is_below, is_number, is_pair, is_sequence
from ownback.errors import Refused, TooGreat
from ownback.histories import check_hands
from ownback.machines import check_machine
from ownback.normal import normal_row
from ownback.tables import empty_table, led_on, moved, part_up_to

SITUATIONS = 2000


def are_led(value, many, bound):
    """Whether a value is so many numbers below a bound."""
    return are_below(value, bound) and len(value) == many


def is_row(value, machine, hands, many):
    """Whether a value is one of so many situations of a desk."""
    if not is_sequence(value) or len(value) != 3:
        return False
    board, deeds, backs = value
    if not is_below(board, len(machine[1][0])) or not are_led(backs, hands, many):
        return False
    if not is_sequence(deeds) or len(deeds) != hands:
        return False
    return all([are_led(led, len(machine[1]), many) for led in deeds])


def as_desk(machine, hands, value):
    if not is_pair(value):
        raise Refused(value)
    start, rows = value
    if not is_sequence(rows) or not 1 <= len(rows) <= SITUATIONS or not is_below(start, len(rows)):
        raise Refused(value)
    if not all([is_row(row, machine, hands, len(rows)) for row in rows]):
        raise Refused(value)
    return start, tuple([(board, tuple([tuple(led) for led in deeds]), tuple(backs)) for board, deeds, backs in rows])


def check_desk(machine, hands, value):
    machine = check_machine(machine)
    check_hands(hands)
    return as_desk(machine, hands, value)


def check_limit(limit):
    if not is_number(limit):
        raise Refused(limit)


def all_presses(machine, hands):
    """Deeds hand by hand, then a back of each hand."""
    presses = [("deed", hand, deed) for hand in range(hands) for deed in range(len(machine[1]))]
    return presses + [("back", hand) for hand in range(hands)]


def table_pressed(machine, table, press, limit):
    """The table behind a press, None if it cannot be made, or more deeds would stand than the limit."""
    counts = table[0]
    if press[0] == "deed":
        return led_on(machine, table, press[1], press[2]) if sum(counts) < limit else None
    hand = press[1]
    return part_up_to(table, moved(counts, hand, -1)) if counts[hand] > 0 else None


def situation_behind(row, press):
    return row[1][press[1]][press[2]] if press[0] == "deed" else row[2][press[1]]


class Beside:
    """The pairs (situation, table of what stands) that come together at a desk, as they are come to, breadth first.

    A table stands for its normal history.
    """

    def __init__(self, machine, hands, desk, limit, most):
        self.machine = machine
        self.rows = desk[1]
        self.limit = limit
        self.most = most
        self.presses = all_presses(machine, hands)
        self.pairs = [(desk[0], empty_table(machine, hands))]
        # By pair that was come to: the place of the one ahead of it, and the press between.
        self.come_by = {self.pairs[0]: None}

    def shows_right(self, at):
        situation, table = self.pairs[at]
        return self.rows[situation][0] == table[1][-1]

    def go_on(self, at):
        """Comes to all pairs that stand behind one."""
        situation, table = self.pairs[at]
        for press in self.presses:
            behind = table_pressed(self.machine, table, press, self.limit)
            if behind is not None:
                self.reach(situation_behind(self.rows[situation], press), behind, at, press)

    def reach(self, situation, table, at, press):
        pair = (situation, table)
        if pair not in self.come_by:
            if len(self.pairs) >= self.most:
                raise TooGreat(self.most)
            self.come_by[pair] = (at, press)
            self.pairs.append(pair)

    def presses_to(self, at):
        """Some fewest presses to a pair."""
        presses = []
        step = self.come_by[self.pairs[at]]
        while step is not None:
            presses.append(step[1])
            step = self.come_by[self.pairs[step[0]]]
        return tuple(presses[::-1])


def beside(machine, hands, desk, limit, most):
    machine = check_machine(machine)
    check_hands(hands)
    desk = as_desk(machine, hands, desk)
    check_limit(limit)
    return Beside(machine, hands, desk, limit, most)


def desk_apart(machine, hands, desk, limit, *, most):
    come = beside(machine, hands, desk, limit, most)
    at = 0
    while at < len(come.pairs):
        if not come.shows_right(at):
            return come.presses_to(at)
        come.go_on(at)
        at += 1
    return None


def is_right(machine, hands, desk, limit, *, most):
    return desk_apart(machine, hands, desk, limit, most=most) is None


def desk_kinds(machine, hands, desk, limit, *, most):
    come = beside(machine, hands, desk, limit, most)
    at = 0
    while at < len(come.pairs):
        come.go_on(at)
        at += 1
    return tuple(sorted([
        (table[0], situation, normal_row(come.machine, table)) for situation, table in come.pairs
    ]))


def desk_row(board, led, hands, deeds):
    """The row of a situation: led tells, by press in their order, the situation behind."""
    behind = [tuple(led[at:at + deeds]) for at in range(0, hands * deeds, deeds)]
    return board, tuple(behind), tuple(led[hands * deeds:])


def keeper_desk(machine, hands, limit, *, most):
    machine = check_machine(machine)
    check_hands(hands)
    check_limit(limit)
    presses = all_presses(machine, hands)
    found = [empty_table(machine, hands)]
    numbers = {found[0]: 0}
    rows = []
    while len(rows) < len(found):
        table = found[len(rows)]
        led = []
        for press in presses:
            behind = table_pressed(machine, table, press, limit)
            # What cannot be pressed leaves it where it is.
            behind = table if behind is None else behind
            if behind not in numbers:
                if len(found) >= most:
                    raise TooGreat(most)
                numbers[behind] = len(found)
                found.append(behind)
            led.append(numbers[behind])
        rows.append(desk_row(table[1][-1], led, hands, len(machine[1])))
    return 0, tuple(rows)
