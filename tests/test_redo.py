import itertools
import random
import time
import unittest

from ownback.counts import count
from ownback.errors import BadHistory, BadMachine, NoDeed, NoHand, OwnError, Refused, TooGreat
from ownback.normal import normal_of
from ownback.redo import (
    Redoer, check_marked, marked_alike, marked_board, marked_kinds, marked_normal, marked_of, marked_parting,
    marked_pressed, marked_table,
)
from tests.trying import (
    LAMP, ODD, SMALL, Trying, board_of, counts_in, first_deeds, histories_with, presses_of, random_machines,
    tried_table,
)

MACHINES = SMALL + tuple(random_machines(8, 4, 3, seed=101))
MARKED = (((0, 0), (1, 1), (0, 1)), (1, 1))


def all_presses(machine, hands):
    return presses_of(machine, hands) + [("again", hand) for hand in range(hands)]


def vectors_up_to(counts):
    return list(itertools.product(*[range(many + 1) for many in counts]))


def told_apart(marked):
    """By deed of a marked history (hand, deed, whether it stands)."""
    history, standing = marked
    done, rows = [0] * len(standing), []
    for hand, deed in history:
        rows.append((hand, deed, done[hand] < standing[hand]))
        done[hand] += 1
    return rows


def behind(hands, rows, press):
    """The point's own words, deed by deed; None if the press cannot be made."""
    kind, hand = press[:2]
    mine = [at for at, row in enumerate(rows) if row[0] == hand]
    if kind == "deed":
        return [row for row in rows if row[0] != hand or row[2]] + [(hand, press[2], True)]
    places = [at for at in mine if rows[at][2] == (kind == "back")]
    if not places:
        return None
    at = places[-1] if kind == "back" else places[0]
    return rows[:at] + [(hand, rows[at][1], kind == "again")] + rows[at + 1:]


def as_marked(hands, rows):
    history = tuple(row[:2] for row in rows)
    return history, tuple(sum(row[0] == hand and row[2] for row in rows) for hand in range(hands))


def tried_board(machine, marked):
    return board_of(machine, [row[:2] for row in told_apart(marked) if row[2]])


def seen(machine, hands, marked):
    return tried_board(machine, marked), marked[1], counts_in(hands, marked[0])


def first_unlike(machine, hands, one, other, many):
    """With how many presses, up to so many, two are seen to be unlike; None if with none, with nothing but trying."""
    pairs = {(one, other)}
    for presses in range(many + 1):
        if any(seen(machine, hands, left) != seen(machine, hands, right) for left, right in pairs):
            return presses
        led = set()
        for left, right in pairs:
            for press in all_presses(machine, hands):
                after = behind(hands, told_apart(left), press), behind(hands, told_apart(right), press)
                if None not in after:
                    led.add((as_marked(hands, after[0]), as_marked(hands, after[1])))
        pairs = led
    return None


def nearest(machine, hands, one, other):
    """By its own words: backs or agains, hand by hand, to the nearest vector at which the tables differ."""
    counts, marks = counts_in(hands, one[0]), one[1]
    apart = [vector for vector in vectors_up_to(counts) if board_of(machine, first_deeds(one[0], vector))
             != board_of(machine, first_deeds(other[0], vector))]
    if not apart:
        return None
    vector = min(apart, key=lambda found: (sum(abs(mark - at) for mark, at in zip(marks, found)), found))
    presses = []
    for hand, (mark, at) in enumerate(zip(marks, vector)):
        presses += [("back" if at < mark else "again", hand)] * abs(mark - at)
    return tuple(presses)


def rows_of_presses(machine, hands, chance, many):
    """Presses that can be made one behind another, with what they make."""
    rows, presses = [], []
    while len(presses) < many:
        press = chance.choice(all_presses(machine, hands) + [("back", chance.randrange(hands))] * 3)
        after = behind(hands, rows, press)
        if after is not None:
            rows = after
            presses.append(press)
    return presses, as_marked(hands, rows)


class Marked(unittest.TestCase, Trying):
    """Points [60] and [61]."""

    def test_press_by_press(self):
        chance = random.Random(102)
        for machine in MACHINES:
            for hands in (1, 2, 3, 4):
                marked = ((), (0,) * hands)
                self.same(marked_of(machine, hands, ()), marked)
                for _ in range(25):
                    self.all_behind(machine, hands, marked)
                    press = chance.choice(all_presses(machine, hands) + [("back", hand) for hand in range(hands)] * 2)
                    after = behind(hands, told_apart(marked), press)
                    if after is not None and len(after) < 9:
                        marked = as_marked(hands, after)

    def all_behind(self, machine, hands, marked):
        self.same(marked_board(machine, hands, marked), tried_board(machine, marked))
        self.same(check_marked(machine, hands, marked), marked)
        for press in all_presses(machine, hands):
            after = behind(hands, told_apart(marked), press)
            if after is None:
                self.fails(Refused, press, marked_pressed, machine, hands, marked, press)
            else:
                self.same(marked_pressed(machine, hands, marked, press), as_marked(hands, after))

    def test_rows_of_presses(self):
        chance = random.Random(103)
        for machine in MACHINES:
            for hands in (1, 2, 3, 4):
                presses, marked = rows_of_presses(machine, hands, chance, 14)
                self.same(marked_of(machine, hands, presses), marked)
                self.untouched(marked_of, machine, hands, tuple(presses))

    def test_places_kept_and_lost(self):
        presses = [("deed", 0, 1), ("deed", 1, 0), ("deed", 0, 0), ("back", 0), ("back", 1), ("back", 0)]
        self.same(marked_of(LAMP, 2, presses), (((0, 1), (1, 0), (0, 0)), (0, 0)))
        self.same(marked_of(LAMP, 2, presses + [("again", 0)]), (((0, 1), (1, 0), (0, 0)), (1, 0)))
        self.same(marked_of(LAMP, 2, presses + [["again", 0], ("deed", 0, 1)]), (((0, 1), (1, 0), (0, 1)), (2, 0)))
        self.same(marked_of(LAMP, 2, presses + [("deed", 1, 1)]), (((0, 1), (0, 0), (1, 1)), (0, 1)))

    def test_a_back_and_an_again_are_as_if_neither_had_been_pressed(self):
        chance = random.Random(104)
        for _ in range(300):
            machine, hands = chance.choice(MACHINES), chance.randint(2, 3)
            presses = rows_of_presses(machine, hands, chance, 8)[0]
            at, hand = chance.randrange(9), chance.randrange(hands)
            behind_it = [press for press in presses[at:] if press[1] != hand]
            try:
                plain = marked_of(machine, hands, presses[:at] + behind_it)
                told = marked_of(machine, hands, presses[:at] + [("back", hand)] + behind_it + [("again", hand)])
            except Refused:
                continue
            self.same(told, plain)

    def test_any_value_as_marked(self):
        for value in ODD:
            if not isinstance(value, (list, tuple)) or len(value) != 2:
                for call in (check_marked, marked_board, marked_table, marked_normal):
                    self.fails(Refused, value, call, LAMP, 2, value)
                self.fails(Refused, value, marked_pressed, LAMP, 2, value, None)
                self.fails(Refused, value, marked_alike, LAMP, 2, MARKED, value)
                self.fails(Refused, value, marked_parting, LAMP, 2, value, 7)
            if repr(value) not in ("(0, 0)", "[0, 0]"):
                self.fails(Refused, value, check_marked, LAMP, 2, (MARKED[0], value))
            if not isinstance(value, (list, tuple)):
                self.fails(BadHistory, -1, check_marked, LAMP, 2, (value, None))
            self.fails(BadHistory, 1, check_marked, LAMP, 2, [((0, 0), (0, 2)), value])
        for marks in ((3, 0), (0, 2), (1,), (1, 1, 0), (1, -1), (1, True)):
            self.fails(Refused, marks, marked_board, LAMP, 2, (MARKED[0], marks))
        self.same(check_marked(LAMP, 2, [[[0, 0], (1, 1)], [0, 1]]), (((0, 0), (1, 1)), (0, 1)))

    def test_any_value_as_a_press(self):
        for value in ODD + (("again", 4), ("again", True), ("again",), ("again", 0, 0), ("Again", 0), ("back", 4)):
            self.fails(Refused, value, marked_pressed, LAMP, 2, MARKED, value)
            self.fails(Refused, value, marked_of, LAMP, 2, [("deed", 0, 0), value])
            if not isinstance(value, (list, tuple)):
                self.fails(Refused, value, marked_of, LAMP, 2, value)
        for word in ("back", "again", "deed"):
            press = (word, 2, 5) if word == "deed" else (word, 2)
            self.fails(NoHand, 2, marked_pressed, LAMP, 2, MARKED, press)
        self.fails(NoDeed, 2, marked_pressed, LAMP, 2, MARKED, ["deed", 1, 2])
        self.fails(Refused, ["again", 1], marked_pressed, LAMP, 2, MARKED, ["again", 1])
        self.fails(Refused, ("back", 1), marked_pressed, LAMP, 2, (((1, 0),), (0, 0)), ("back", 1))
        self.fails(NoHand, 2, marked_of, LAMP, 2, [("deed", 0, 0), ("again", 2), None])

    def test_order_of_errors(self):
        for call, more in ((check_marked, ()), (marked_board, ()), (marked_table, ()), (marked_normal, ()),
                           (marked_pressed, (9,)), (marked_alike, (9,)), (marked_parting, (9,))):
            self.fails(BadMachine, -1, call, 9, 9, 9, *more)
            for hands in (0, 5, True, None, "2"):
                self.fails(Refused, hands, call, LAMP, hands, 9, *more)
            self.fails(Refused, 9, call, LAMP, 2, 9, *more)
        for call in (marked_alike, marked_parting):
            self.fails(Refused, (9, 9), call, LAMP, 2, (MARKED[0], (9, 9)), 9)
            self.fails(BadHistory, 0, call, LAMP, 2, MARKED, (((2, 0),), 9))
        self.fails(BadMachine, 1, marked_of, (0, ()), 9, 9)
        self.fails(Refused, 5, marked_of, LAMP, 5, 9)

    def test_lists_are_taken_and_left(self):
        for call in (check_marked, marked_board, marked_table, marked_normal):
            self.untouched(call, LAMP, 2, MARKED)
        for press in (("back", 0), ("again", 0), ("deed", 0, 0)):
            self.untouched(marked_pressed, LAMP, 2, MARKED, press)
        for call in (marked_alike, marked_parting):
            self.untouched(call, LAMP, 2, MARKED, (MARKED[0][::-1], MARKED[1]))


class Kinds(unittest.TestCase, Trying):
    """Point [62]."""

    def test_tables_and_normal_ones(self):
        chance = random.Random(105)
        for machine in MACHINES:
            for hands in (1, 2, 3, 4):
                history, marks = rows_of_presses(machine, hands, chance, 9)[1]
                self.same(marked_table(machine, hands, (history, marks)), (tried_table(machine, hands, history), marks))
                self.same(marked_normal(machine, hands, (history, marks)), (normal_of(machine, hands, history), marks))

    def test_alike_exactly_if_no_presses_tell(self):
        for machine in (LAMP, SMALL[3], SMALL[6], SMALL[7]):
            for counts, step in (((2,), 1), ((1, 1), 1), ((2, 1), 17)):
                hands = len(counts)
                histories = histories_with(machine, counts)
                for marks in vectors_up_to(counts):
                    for one, other in list(itertools.combinations(histories, 2))[::step]:
                        self.told_by_presses(machine, hands, (one, marks), (other, marks), sum(counts))

    def told_by_presses(self, machine, hands, one, other, many):
        found = marked_parting(machine, hands, one, other)
        fewest = first_unlike(machine, hands, one, other, many if found is None else len(found))
        self.assertEqual(fewest, None if found is None else len(found))
        self.same(found, nearest(machine, hands, one, other))
        self.same(marked_alike(machine, hands, one, other), found is None)

    def test_what_is_told_parts_them(self):
        chance = random.Random(106)
        for _ in range(400):
            machine, hands = chance.choice(MACHINES), chance.randint(1, 4)
            history, marks = rows_of_presses(machine, hands, chance, 9)[1]
            row = list(history)
            chance.shuffle(row)
            other = tuple((hand, deed if chance.random() < 0.7 else 0) for hand, deed in row)
            one, other = (history, marks), (other, marks)
            found = marked_parting(machine, hands, one, other)
            self.same(found, nearest(machine, hands, one, other))
            for press in found or ():
                one, other = marked_pressed(machine, hands, one, press), marked_pressed(machine, hands, other, press)
            self.assertEqual(marked_board(machine, hands, one) != marked_board(machine, hands, other), found is not None)

    def test_unlike_numbers(self):
        one = (((0, 0), (0, 0)), (1,))
        for other in ((((0, 0), (0, 0)), (2,)), (((0, 0),), (1,)), (((0, 0),), (0,)), (((0, 0),) * 3, (2,))):
            self.same(marked_parting(LAMP, 1, one, other), ())
            self.same(marked_alike(LAMP, 1, one, other), False)
        self.same(marked_parting(LAMP, 1, one, one), None)
        self.same(marked_parting(LAMP, 1, (((0, 0),), (1,)), (((0, 1),), (1,))), None)
        self.same(marked_parting(SMALL[6], 1, (((0, 0),), (1,)), (((0, 1),), (1,))), ())

    def test_kinds_against_all_histories(self):
        for machine in MACHINES:
            for counts in ((0,), (3,), (1, 1), (2, 1), (1, 0, 1), (1, 1, 1), (2, 2)):
                kinds = len({tried_table(machine, len(counts), history) for history in histories_with(machine, counts)})
                self.same(marked_kinds(machine, counts, most=900), kinds * len(vectors_up_to(counts)))
                self.untouched(marked_kinds, machine, counts, most=900)

    def test_errors_of_kinds(self):
        self.fails(BadMachine, -1, marked_kinds, 9, 9, most=9)
        for value in (None, 0, (), (0,) * 5, (-1,), (True,), [None], "11", ((1,),)):
            self.fails(Refused, value, marked_kinds, LAMP, value, most=1)
        for most in range(1, 60):
            try:
                right = count(LAMP, (2, 1), most=most) * 6
            except TooGreat:
                self.fails(TooGreat, most, marked_kinds, LAMP, (2, 1), most=most)
            else:
                self.same(marked_kinds(LAMP, (2, 1), most=most), right)

    def test_limits(self):
        chance = random.Random(107)
        begun = time.monotonic()
        for machine, counts in [(machine, counts) for machine in random_machines(5, 2, 2, seed=108)
                                for counts in ((3,), (2, 1), (0, 3))] + [((0, ((1, 2, 0),)), (2, 1))]:
            self.assertGreater(marked_kinds(machine, counts, most=900), 0)
        for machine in random_machines(10, 8, 4, seed=109):
            presses, marked = rows_of_presses(machine, 4, chance, 14)
            self.same(marked_of(machine, 4, presses), marked)
            self.same(marked_parting(machine, 4, marked, marked_normal(machine, 4, marked)), None)
        self.assertLess(time.monotonic() - begun, 20)


class Desks(unittest.TestCase, Trying):
    """Point [62], the desk."""

    def test_press_by_press(self):
        chance = random.Random(110)
        for machine in MACHINES:
            for hands in (1, 2, 3, 4):
                desk, rows = Redoer(machine, hands), []
                self.same((desk.marked, desk.board_now()), (((), (0,) * hands), machine[0]))
                for _ in range(20):
                    press = chance.choice(all_presses(machine, hands) + [("back", hand) for hand in range(hands)])
                    after = behind(hands, rows, press)
                    if after is None:
                        self.refuses(desk, Refused, press, press)
                    elif len(after) < 8:
                        rows = after
                        history, marks = as_marked(hands, rows)
                        self.same(desk.take(press), (normal_of(machine, hands, history), marks))
                        self.same(desk.board_now(), tried_board(machine, (history, marks)))
                        self.same(desk.marked, (normal_of(machine, hands, history), marks))

    def refuses(self, desk, kind, told, press):
        before = desk.marked
        self.fails(kind, told, desk.take, press)
        self.assertIs(desk.marked, before)

    def test_refused(self):
        desk = Redoer(LAMP, 2)
        desk.take(["deed", 1, 1])
        for value in ODD + (("again", 4), ("again", 0), ("back", 0), ["again", 1]):
            self.refuses(desk, Refused, value, value)
        self.refuses(desk, NoHand, 2, ("again", 2))
        self.refuses(desk, NoHand, 3, ("deed", 3, 5))
        self.refuses(desk, NoDeed, 2, ("deed", 0, 2))

    def test_made(self):
        self.fails(BadMachine, -1, Redoer, 9, 9)
        for value in [value for value in ODD if type(value) is not int] + [0, 5, -1]:
            self.fails(Refused, value, Redoer, LAMP, value)
        machine = [0, [[1, 0], [1, 1]]]
        desk = Redoer(machine=machine, hands=2)
        machine[1][0][0] = 0
        desk.take(press=("deed", 0, 0))
        self.same(desk.board_now(), 1)
        for method in (desk.take, desk.board_now):
            self.assertIn(method.__name__, vars(Redoer))

    def test_no_more_than_any_right_desk_must(self):
        """Each two that a desk keeps are told apart by some presses."""
        for machine in (LAMP, SMALL[7]):
            kept = {marked_normal(machine, 2, (history, marks)) for history in histories_with(machine, (1, 1))
                    for marks in vectors_up_to((1, 1))}
            self.assertEqual(len(kept), marked_kinds(machine, (1, 1), most=99))
            for one, other in itertools.combinations(sorted(kept), 2):
                self.assertIsNotNone(first_unlike(machine, 2, one, other, 2))

    def test_limits(self):
        begun = time.monotonic()
        chance = random.Random(111)
        for machine in random_machines(10, 5, 3, seed=112):
            desk = Redoer(machine, 4)
            for _ in range(14):
                try:
                    desk.take(chance.choice(all_presses(machine, 4)))
                except OwnError:
                    pass
            self.same(check_marked(machine, 4, desk.marked), desk.marked)
        self.assertLess(time.monotonic() - begun, 10)
