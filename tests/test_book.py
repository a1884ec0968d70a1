import itertools
import random
import time
import unittest

from ownback.book import folded_octets, new_book, open_book, plain_book
from ownback.errors import BadHistory, BadMachine, BadOctets, Broken, NoDeed, NoHand, Refused
from ownback.forms import write_presses
from ownback.journals import Journal, begun_octets, plain_journal
from ownback.normal import normal_of
from tests.trying import (
    LAMP, ODD, SMALL, Trying, all_rows, behind_press, board_of, histories_with, presses_of, random_machines,
    tried_table,
)

MACHINES = SMALL + tuple(random_machines(8, 4, 3, seed=151))
FIRST = (0, 0, 0)


def told(book):
    journal = book.journal
    return (book.history, book.board_now(), book.both_pages(), book.loose(),
            (journal.page, journal.sign, journal.begun, journal.laid, journal.kept))


def played(history, presses):
    """What presses make of a history; those that cannot be made are left out."""
    for press in presses:
        behind = behind_press(history, press)
        history = history if behind is None else behind
    return history


class Session:
    """A book that is used, and what stands behind a cut of so many octets, told from presses alone."""

    def __init__(self, machine, hands, seed, steps, most=6):
        self.book, self.machine, self.hands = new_book(machine, hands), machine, hands
        self.ends, self.stands, self.as_they_were = [0], [()], [()]
        chance = random.Random(seed)
        for _ in range(steps):
            self.step(chance, most)

    def step(self, chance, most):
        kind = chance.choice(("press", "press", "press", "press", "keep", "fold"))
        if kind == "keep":
            self.book.keep()
            self.forget()
        elif kind == "fold":
            self.book.fold()
            history = normal_of(self.machine, self.hands, self.stands[-1])
            self.forget()
            # Till what is begun is whole, all that was told before stands.
            self.ends.append(3 + 2 * len(history))
            self.stands.append(history)
            self.as_they_were.append(self.as_they_were[-1])
        else:
            press = chance.choice(presses_of(self.machine, self.hands))
            behind = behind_press(self.stands[-1], press)
            if behind is not None and len(behind) <= most:
                self.book.take(press)
                self.ends.append(self.ends[-1] + len(write_presses([press])))
                self.stands.append(behind)
                self.as_they_were.append(behind_press(self.as_they_were[-1], press))

    def forget(self):
        self.ends, self.stands, self.as_they_were = [0], self.stands[-1:], self.as_they_were[-1:]

    def behind_cut(self, left):
        at = max(place for place, end in enumerate(self.ends) if end <= left)
        return self.stands[at], self.as_they_were[at]


class Books(unittest.TestCase, Trying):
    """Point [70]."""

    def test_press_by_press(self):
        chance = random.Random(152)
        for machine in MACHINES:
            for hands in (1, 2, 3, 4):
                book, history, laid = new_book(machine, hands), (), []
                self.same((book.history, book.board_now(), book.loose()), ((), machine[0], 0))
                self.same(book.both_pages(), (FIRST, ()))
                for _ in range(12):
                    press = chance.choice(presses_of(machine, hands))
                    behind = behind_press(history, press)
                    if behind is None:
                        self.refuses(book, Refused, press, press)
                    else:
                        history, laid = behind, laid + [press]
                        self.same(book.take(press), board_of(machine, history))
                    self.same((book.history, book.board_now()), (history, board_of(machine, history)))
                    self.same(book.both_pages(), (FIRST + write_presses(laid), ()))
                    self.same(book.loose(), len(write_presses(laid)))

    def refuses(self, book, kind, value, press):
        before = told(book)
        self.fails(kind, value, book.take, press)
        self.same(told(book), before)

    def test_cut_at_any_octet(self):
        for seed in range(50):
            machine, hands = MACHINES[seed % len(MACHINES)], 1 + seed % 3
            many = Session(machine, hands, seed, 14).book.loose()
            for left in range(many + 1):
                session = Session(machine, hands, seed, 14)
                book, (stands, plain) = session.book, session.behind_cut(left)
                pages = list(book.both_pages())
                page = book.journal.page
                pages[page] = pages[page][:len(pages[page]) - many + left]
                self.assertIsNone(book.cut(left))
                self.same((book.history, book.loose()), (stands, 0))
                self.same(plain_book(machine, hands, pages), stands)
                anew = open_book(machine, hands, pages)
                self.same(told(anew), told(book))
                self.same((anew.journal.begun, anew.journal.laid), plain_journal(pages)[2:4])
                self.shows_for_ever(machine, hands, anew, plain)

    def shows_for_ever(self, machine, hands, book, plain):
        """The book shows what a desk shows at which what stands was pressed, folded or not."""
        self.assertEqual(tried_table(machine, hands, book.history), tried_table(machine, hands, plain))
        chance = random.Random(153)
        for _ in range(5):
            press = chance.choice(presses_of(machine, hands))
            behind = behind_press(plain, press)
            if behind is None:
                self.refuses(book, Refused, press, press)
            else:
                plain = behind
                self.same(book.take(press), board_of(machine, plain))

    def test_all_presses_behind_a_fold(self):
        for machine in (LAMP, SMALL[6], SMALL[7]):
            for history in histories_with(machine, (1, 2)):
                book = new_book(machine, 2)
                for hand, deed in history:
                    book.take(("deed", hand, deed))
                book.fold()
                self.same(book.history, normal_of(machine, 2, history))
                for presses in all_rows((("back", 0), ("back", 1), ("deed", 0, 0)), 2):
                    self.assertEqual(*[board_of(machine, played(begun, presses)) for begun in (history, book.history)])

    def test_keep_loose_and_fold(self):
        book = new_book(LAMP, 2)
        book.take(["deed", 1, 1])
        self.same((book.loose(), book.keep(), book.loose()), (3, None, 0))
        book.take(("deed", 0, 0))
        self.same((book.fold(), book.history), (None, ((0, 0), (1, 0))))
        self.same(book.both_pages(), (FIRST + (1, 1, 1, 1, 0, 0), (1, 0, 2, 0, 0, 1, 0)))
        self.same((book.loose(), book.cut(6), book.history), (7, None, ((1, 1), (0, 0))))
        self.same(book.both_pages(), (FIRST + (1, 1, 1, 1, 0, 0), (1, 0, 2, 0, 0, 1)))
        for value in [value for value in ODD if type(value) is not int] + [1, -1]:
            before = told(book)
            self.fails(Refused, value, book.cut, value)
            self.same(told(book), before)

    def test_refused(self):
        book = new_book(LAMP, 2)
        book.take(("deed", 1, 1))
        for value in ODD + (("back", 0), ["back", 0], ("back", 4), ("again", 1)):
            self.refuses(book, Refused, value, value)
        self.refuses(book, NoHand, 2, ("deed", 2, 5))
        self.refuses(book, NoDeed, 2, ["deed", 0, 2])

    def test_presses_that_cannot_be_made(self):
        for presses, number in (([("back", 0)], 1), ([("deed", 0, 0), ("deed", 1, 2), ("back", 1)], 2),
                                ([("deed", 1, 1), ("back", 1), ("deed", 2, 0)], 3),
                                ([("deed", 0, 0), ("back", 0), ("back", 0), ("deed", 3, 5)], 3)):
            pages = (FIRST + write_presses(presses), (2, 0, 1))
            for call in (plain_book, open_book):
                self.fails(Broken, number, call, LAMP, 2, pages)
        for history in (((2, 0),), ((0, 2),), ((0, 0), (1, 1), (3, 5))):
            for call in (plain_book, open_book):
                self.fails(Broken, 0, call, LAMP, 2, (begun_octets(1, history) + write_presses([("back", 3)]), ()))
        self.same(plain_book(LAMP, 3, (begun_octets(1, ((2, 0),)) + write_presses([("back", 2)]), ())), ())
        # The page that does not count is read, but not played.
        pages = (begun_octets(0, ((3, 5),)) + write_presses([("back", 0)]), begun_octets(1, ((0, 1),)))
        self.same(plain_book(LAMP, 2, pages), ((0, 1),))
        self.same(open_book(LAMP, 2, pages).both_pages(), pages)

    def test_order_of_errors(self):
        good = (FIRST, ())
        for call in (plain_book, open_book):
            self.fails(BadMachine, -1, call, 9, 9, 9)
            for value in [value for value in ODD if type(value) is not int] + [0, 5, -1]:
                self.fails(Refused, value, call, LAMP, value, 9)
            for value in ODD:
                if not isinstance(value, (list, tuple)) or len(value) != 2:
                    self.fails(Refused, value, call, LAMP, 2, value)
            self.fails(BadOctets, 1, call, LAMP, 2, ((0, 256), 9))
            self.fails(Broken, (0, 0), call, LAMP, 2, ((9,), 9))
            self.fails(BadOctets, -1, call, LAMP, 2, (FIRST + (0, 0), 9))
            self.fails(Broken, (1, 3), call, LAMP, 2, (FIRST + (0, 0), (1, 0, 0, 2)))
            self.fails(Broken, -1, call, LAMP, 2, (FIRST + (0, 0), FIRST))
            self.untouched(plain_book, LAMP, 2, good)
        self.fails(BadMachine, 1, new_book, (0, ()), 9)
        for value in [value for value in ODD if type(value) is not int] + [0, 5, -1]:
            self.fails(Refused, value, new_book, LAMP, value)

    def test_made(self):
        machine = [0, [[1, 0], [1, 1]]]
        book = new_book(machine=machine, hands=2)
        machine[1][0][0] = 0
        self.same(book.take(press=("deed", 0, 0)), 1)
        self.assertIs(book.journal.__class__, Journal)
        self.same(book.journal.pages, book.both_pages())
        pages = [[0, 0, 0], []]
        anew = open_book(LAMP, hands=2, pages=pages)
        pages[0].append(7)
        self.same(anew.both_pages(), (FIRST, ()))

    def test_limits(self):
        begun = time.monotonic()
        for machine in random_machines(4, 8, 6, seed=154):
            for seed in range(4):
                session = Session(machine, 4, seed, 40, most=12)
                stands = session.behind_cut(session.book.loose())[0]
                session.book.cut(session.book.loose())
                self.same(session.book.history, stands)
        self.assertLess(time.monotonic() - begun, 10)


class Folded(unittest.TestCase, Trying):
    """Point [70], folded octets."""

    def test_beside_the_tables_of_all_histories(self):
        for machine in MACHINES:
            for counts in ((0,), (3,), (1, 1), (2, 1), (1, 0, 1)):
                tables = {}
                for history in histories_with(machine, counts):
                    octets = folded_octets(machine, len(counts), history)
                    self.same(octets, begun_octets(0, normal_of(machine, len(counts), history)))
                    tables.setdefault(octets, set()).add(tried_table(machine, len(counts), history))
                self.assertTrue(all(len(found) == 1 for found in tables.values()))
                every = list(itertools.chain.from_iterable(tables.values()))
                self.assertEqual(len(every), len(set(every)))

    def test_is_the_folded_page(self):
        for seed in range(20):
            session = Session(MACHINES[seed % len(MACHINES)], 2, seed, 10)
            book = session.book
            octets = folded_octets(book.machine, 2, book.history)
            book.fold()
            self.same(book.both_pages()[book.journal.page][1:], octets[1:])

    def test_errors(self):
        self.fails(BadMachine, -1, folded_octets, 9, 9, 9)
        for hands in (0, 5, True, None, "2"):
            self.fails(Refused, hands, folded_octets, LAMP, hands, 9)
        self.fails(BadHistory, -1, folded_octets, LAMP, 2, 9)
        self.fails(BadHistory, 1, folded_octets, LAMP, 2, ((0, 0), (2, 0)))
        self.untouched(folded_octets, LAMP, 2, ((1, 1), (0, 0)))
