import itertools
import random
import time
import unittest

from ownback.errors import BadHistory, BadMachine, NoDeed, NoHand, Refused, TooGreat
from ownback.histories import (
    alike_for, beginning, board_of, boards, boards_shown, check_history, check_presses, counts_of, history_of, pressed,
    struck,
)
from tests.trying import (
    LAMP, ODD, SMALL, Trying, all_rows, first_deeds, histories_with, lead, presses_of, random_machines,
)

HISTORY = ((1, 1), (0, 0), (1, 0))
NO_HANDS = (None, True, False, 0, 5, -1, "2", (), [2], 10 ** 30, Refused(1))
NO_SEQUENCES = [value for value in ODD if not isinstance(value, (list, tuple))]
NO_LETTERS = (None, True, 0, "00", (), (0,), (0, 0, 0), (2, 0), (0, 2), (-1, 0), (0, -1), (True, 0), (0, False), ("0", 0),
              (0, None), ([0], 0), (0, (0,)), ("deed", 0, 0), Refused(0))
BAD_PRESSES = (None, True, 0, "", (), ("deed", 0), ("deed", 4, 0), ("deed", 0, 6), ("back", 4), ("back", True),
               ("deed", False, 0), ("back", 0, 0), Refused(0), [[]])


def tried_press(history, press):
    """The history behind a press, None if it cannot be made."""
    if press[0] == "deed":
        return history + (press[1:],)
    mine = [at for at, letter in enumerate(history) if letter[0] == press[1]]
    return history[:mine[-1]] + history[mine[-1] + 1:] if mine else None


def tried_history(presses):
    history = ()
    for press in presses:
        history = tried_press(history, press)
        if history is None:
            return None
    return history


def tried_pairs(machine, hands, one, other, many):
    """All pairs behind all rows of at most so many presses, in the words of the point."""
    found = {(one, other)}
    for row in all_rows(presses_of(machine, hands), many):
        left, right = one, other
        for press in row:
            left, right = tried_press(left, press), tried_press(right, press)
            if left is None or right is None:
                break
        else:
            found.add((left, right))
    return found


def tried_counts(hands, history):
    return tuple(sum(letter[0] == hand for letter in history) for hand in range(hands))


def tried_board(machine, history):
    return lead(machine, machine[0], [deed for _, deed in history])


class Histories(unittest.TestCase, Trying):
    """Point [11]."""

    def test_histories(self):
        self.same(check_history(LAMP, 2, [[1, 1], (0, 0)]), ((1, 1), (0, 0)))
        self.same(check_history(machine=LAMP, hands=4, value=[]), ())
        self.untouched(check_history, LAMP, 2, HISTORY)

    def test_counts_and_boards(self):
        for machine in SMALL:
            for history in histories_with(machine, (2, 0, 1)):
                self.same(counts_of(4, history), (2, 0, 1, 0))
                row = [deed for _, deed in history]
                self.same(boards(machine, history), tuple(lead(machine, machine[0], row[:at]) for at in range(4)))
                self.same(board_of(machine, history), lead(machine, machine[0], row))
        self.same((counts_of(3, ()), boards(SMALL[8], ()), board_of(SMALL[8], [])), ((0, 0, 0), (1,), 1))
        self.same(counts_of(1, [(0, 5)]), (1,))
        self.same(board_of(LAMP, [[3, 1]]), 1)
        self.untouched(counts_of, 2, HISTORY)
        self.untouched(boards, LAMP, HISTORY)
        self.untouched(board_of, LAMP, HISTORY)

    def test_wrong_hands(self):
        for value in NO_HANDS:
            self.fails(Refused, value, check_history, LAMP, value, None)
            self.fails(Refused, value, counts_of, value, None)
            self.fails(Refused, value, beginning, LAMP, value, None, None)
            self.fails(Refused, value, pressed, LAMP, value, None, None)
            self.fails(Refused, value, alike_for, LAMP, value, None, None, None, most=None)
            for call in (check_presses, history_of, boards_shown, struck):
                self.fails(Refused, value, call, LAMP, value, None)

    def test_wrong_histories(self):
        told = [(value, -1) for value in NO_SEQUENCES]
        told += [((letter,), 0) for letter in NO_LETTERS] + [([(1, 1), [0, 0], letter, 3], 2) for letter in NO_LETTERS]
        for value, at in told:
            self.fails(BadHistory, at, check_history, LAMP, 2, value)
            self.fails(BadHistory, at, beginning, LAMP, 2, value, None)
            self.fails(BadHistory, at, pressed, LAMP, 2, value, None)
            self.fails(BadHistory, at, alike_for, LAMP, 2, value, None, None, most=None)
            self.fails(BadHistory, at, alike_for, LAMP, 2, (), value, None, most=None)
            if value != ((2, 0),) and value != [(1, 1), [0, 0], (2, 0), 3]:
                self.fails(BadHistory, at, boards, LAMP, value)
                self.fails(BadHistory, at, board_of, LAMP, value)
        self.fails(BadHistory, 0, boards, LAMP, [(4, 0)])
        self.fails(BadHistory, 1, counts_of, 2, ((1, 5), (0, 6)))
        self.fails(BadHistory, 0, counts_of, 2, ((2, 0),))
        self.fails(BadHistory, -1, counts_of, 2, "00")

    def test_machine_first(self):
        self.fails(BadMachine, -1, check_history, None, 0, None)
        self.fails(BadMachine, -1, boards, None, None)
        self.fails(BadMachine, 1, board_of, (0, None), None)
        self.fails(BadMachine, 0, beginning, (1, ((0,),)), 0, None, None)
        self.fails(BadMachine, -1, pressed, (), 0, None, None)
        self.fails(BadMachine, -1, alike_for, (), 0, None, None, None, most=0)
        for call in (check_presses, history_of, boards_shown, struck):
            self.fails(BadMachine, -1, call, (), 0, None)


class Presses(unittest.TestCase, Trying):
    """Point [12]."""

    def test_pressed(self):
        for machine in SMALL[:6]:
            for counts in ((0, 0), (1, 0), (2, 1)):
                for history in histories_with(machine, counts):
                    for press in presses_of(machine, 2):
                        behind = tried_press(history, press)
                        if behind is None:
                            self.fails(Refused, press, pressed, machine, 2, history, press)
                        else:
                            self.same(pressed(machine, 2, history, press), behind)
        self.untouched(pressed, LAMP, 2, HISTORY, ("back", 1))
        self.untouched(pressed, LAMP, 2, HISTORY, ("deed", 0, 1))

    def test_rows_of_presses(self):
        for machine in (SMALL[1], LAMP):
            for row in all_rows(presses_of(machine, 2), 4):
                if tried_history(row) is None:
                    continue
                begun = [tried_history(row[:at]) for at in range(len(row) + 1)]
                self.same(check_presses(machine, 2, list(row)), row)
                self.same(history_of(machine, 2, row), begun[-1])
                self.same(boards_shown(machine, 2, row), tuple(tried_board(machine, history) for history in begun))
                self.same(struck(machine, 2, row), self.tried_struck(row))
                self.struck_deeds_are_as_never_done(machine, row)

    def tried_struck(self, row):
        pairs = []
        for at, press in enumerate(row):
            if press[0] == "back":
                taken = {place for place, _ in pairs}
                mine = [place for place in range(at) if row[place][:2] == ("deed", press[1]) and place not in taken]
                pairs.append((mine[-1], at))
        return tuple(sorted(pairs))

    def struck_deeds_are_as_never_done(self, machine, row):
        shown = boards_shown(machine, 2, row)
        for deed, back in struck(machine, 2, row):
            rest = row[:deed] + row[deed + 1:back] + row[back + 1:]
            self.assertEqual(boards_shown(machine, 2, rest)[back - 1:], shown[back + 1:])

    def test_lists_are_taken_and_left(self):
        row = (("deed", 0, 0), ("deed", 1, 1), ("back", 0))
        for call in (check_presses, history_of, boards_shown, struck):
            self.untouched(call, LAMP, 2, row)
        self.same((check_presses(LAMP, 1, []), history_of(LAMP, 1, ()), boards_shown(LAMP, 1, ()), struck(LAMP, 1, ())),
                  ((), (), (0,), ()))

    def test_errors_of_a_press(self):
        for press in BAD_PRESSES:
            self.press_fails(Refused, press, 1, press)
        self.press_fails(NoHand, 1, 1, ("deed", 1, 5))
        self.press_fails(NoHand, 3, 3, ["back", 3])
        self.press_fails(NoDeed, 2, 3, ("deed", 2, 2))
        self.press_fails(NoDeed, 5, 1, ["deed", 0, 5])
        self.press_fails(Refused, ("back", 2), 3, ("back", 2))
        self.press_fails(Refused, ["back", 1], 3, ["back", 1])

    def press_fails(self, kind, told, hands, press):
        self.fails(kind, told, pressed, LAMP, hands, ((0, 0),), press)
        for call in (check_presses, history_of, boards_shown, struck):
            self.fails(kind, told, call, LAMP, hands, [("deed", 0, 1), ("deed", 0, 0), press, None])

    def test_no_sequence_of_presses(self):
        for value in NO_SEQUENCES:
            for call in (check_presses, history_of, boards_shown, struck):
                self.fails(Refused, value, call, LAMP, 2, value)


class Beginnings(unittest.TestCase, Trying):
    """Point [13]."""

    def test_all(self):
        for history in histories_with(LAMP, (2, 1, 1)):
            for vector in itertools.product(range(3), range(2), range(2)):
                self.same(beginning(LAMP, 3, history, vector), first_deeds(history, vector))
        self.untouched(beginning, LAMP, 2, HISTORY, (1, 1))

    def test_backs_lead_there_in_any_order(self):
        chance = random.Random(3)
        for history in histories_with(LAMP, (2, 1, 1)):
            vector = tuple(chance.randint(0, many) for many in (2, 1, 1))
            backs = [("back", hand) for hand in range(3) for _ in range((2, 1, 1)[hand] - vector[hand])]
            for row in set(itertools.permutations(backs)):
                behind = history
                for press in row:
                    behind = pressed(LAMP, 3, behind, press)
                self.same(behind, beginning(LAMP, 3, history, vector))

    def test_wrong_vectors(self):
        for value in ODD:
            if value not in ([0, 0], (0, 0)) or value == [False, False]:
                self.fails(Refused, value, beginning, LAMP, 2, HISTORY, value)
        for value in ((2, 0), (0, 3), (0,), (0, 0, 0), (0, True), ("0", 0), (-1, 0), "00", (0, None)):
            self.fails(Refused, value, beginning, LAMP, 2, HISTORY, value)


class AlikeFor(unittest.TestCase, Trying):
    """Point [14]."""

    def test_by_trying(self):
        for machine in (SMALL[1], LAMP, SMALL[6]):
            some = [history for counts in ((0, 0), (1, 0), (1, 1)) for history in histories_with(machine, counts)]
            for one, other in itertools.product(some, repeat=2):
                for many in range(3):
                    pairs = tried_pairs(machine, 2, one, other, many)
                    told = all(tried_counts(2, left) == tried_counts(2, right)
                               and tried_board(machine, left) == tried_board(machine, right) for left, right in pairs)
                    self.same(alike_for(machine, 2, one, other, many, most=len(pairs)), told)
                    if len(pairs) > 1:
                        self.fails(TooGreat, len(pairs) - 1, alike_for, machine, 2, one, other, many,
                                   most=len(pairs) - 1)

    def test_by_beginnings(self):
        for machine in list(SMALL[2:7]) + random_machines(5, 3, 2, seed=17):
            for counts in ((3,), (2, 1)):
                told = histories_with(machine, counts)
                chance = random.Random(4)
                for _ in range(60):
                    one, other = chance.choice(told), chance.choice(told)
                    for many in range(5 if len(counts) == 1 else 4):
                        self.same(alike_for(machine, len(counts), one, other, many, most=5000),
                                  self.told_by_beginnings(machine, counts, one, other, many))

    def told_by_beginnings(self, machine, counts, one, other, many):
        return all(tried_board(machine, first_deeds(one, vector)) == tried_board(machine, first_deeds(other, vector))
                   for vector in itertools.product(*[range(most + 1) for most in counts])
                   if sum(counts) - sum(vector) <= many)

    def test_unlike_numbers(self):
        self.same(alike_for(SMALL[0], 2, ((0, 0),), ((1, 0),), 0, most=1), False)
        self.fails(TooGreat, 2, alike_for, SMALL[0], 2, ((0, 0),), ((1, 0),), 1, most=2)
        self.untouched(alike_for, LAMP, 2, HISTORY, ((1, 1), (1, 0), (0, 0)), 1, most=99)

    def test_errors(self):
        for value in (None, True, -1, "1", (), Refused(0)):
            self.fails(Refused, value, alike_for, LAMP, 2, (), (), value, most=None)
        for value in (None, True, 0, -1, "9", (), Refused(0)):
            self.fails(Refused, value, alike_for, LAMP, 2, (), (), 1, most=value)
        with self.assertRaises(TypeError):
            alike_for(LAMP, 2, (), (), 1, 99)

    def test_limits(self):
        machine = (0, tuple(tuple((board * deed + 1) % 8 for board in range(8)) for deed in range(6)))
        one = ((0, 1), (1, 2), (2, 3), (0, 4), (1, 5))
        begun = time.monotonic()
        self.same(alike_for(machine, 3, one, one, 1, most=2000), True)
        self.same(alike_for(machine, 1, ((0, 1),) * 5, ((0, 1),) * 5, 3, most=2000), True)
        self.fails(TooGreat, 2000, alike_for, machine, 3, one, one, 4, most=2000)
        self.fails(TooGreat, 300, alike_for, SMALL[1], 1, (), (), 10 ** 30, most=300)
        row = tuple(("deed", at % 4, at % 6) for at in range(14))
        self.assertEqual(len(boards_shown(machine, 4, row)), 15)
        self.assertLess(time.monotonic() - begun, 5)
