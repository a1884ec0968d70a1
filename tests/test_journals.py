import itertools
import random
import time
import unittest

from ownback.errors import BadHistory, BadOctets, Broken, Refused
from ownback.forms import write_presses
from ownback.journals import Journal, begun_octets, open_journal, plain_journal
from tests.trying import ODD, Trying, all_rows, as_lists

PRESSES = [("deed", hand, deed) for hand in range(4) for deed in range(6)] + [("back", hand) for hand in range(4)]
FORMS = {write_presses([press]): press for press in PRESSES}
HISTORY = ((0, 5), (3, 0), (1, 2))


def page_of(sign, history, presses=()):
    octets = [sign, len(history) // 256, len(history) % 256]
    for letter in history:
        octets += letter
    return tuple(octets) + write_presses(presses)


def tried_page(octets):
    """What a page tells, octet by octet: (sign, history, presses, place), None if it is not begun whole, or a place."""
    letters = []
    for at, octet in enumerate(octets[:3]):
        if at == 0 and octet > 2:
            return 0
    if len(octets) < 3:
        return None
    many = octets[1] * 256 + octets[2]
    for at in range(3, min(len(octets), 3 + 2 * many)):
        if octets[at] >= (4 if at % 2 else 6):
            return at
    if len(octets) < 3 + 2 * many:
        return None
    letters = tuple((octets[at], octets[at + 1]) for at in range(3, 3 + 2 * many, 2))
    at, presses = 3 + 2 * many, []
    while octets[at:]:
        whole = [octets[at:at + size] for size in (2, 3) if octets[at:at + size] in FORMS]
        if not whole:
            break
        presses.append(FORMS[whole[0]])
        at += len(whole[0])
    for size in range(1, min(3, len(octets) - at) + 1):
        if not any(form[:size] == octets[at:at + size] for form in FORMS):
            return at + size - 1
    return octets[0], letters, tuple(presses), at


def tried_journal(pages):
    """By its own words: what plain_journal tells, or the place where it is broken."""
    told = [tried_page(octets) for octets in pages]
    for page in (0, 1):
        if isinstance(told[page], int):
            return page, told[page]
    whole = [page for page in (0, 1) if told[page] is not None]
    if not whole or (len(whole) == 2 and told[0][0] == told[1][0]):
        return -1
    if len(whole) == 2:
        whole = [page for page in (0, 1) if told[page][0] == {0: 1, 1: 2, 2: 0}[told[1 - page][0]]]
    return (whole[0],) + told[whole[0]]


def told(journal):
    return (journal.pages, journal.page, journal.sign, journal.begun, journal.laid, journal.kept)


class Begun(unittest.TestCase, Trying):
    """Point [68]: what pages are begun with."""

    def test_octets(self):
        self.same(begun_octets(0, ()), (0, 0, 0))
        self.same(begun_octets(2, HISTORY), (2, 0, 3, 0, 5, 3, 0, 1, 2))
        self.same(begun_octets(1, ((0, 0),) * 256)[:5], (1, 1, 0, 0, 0))
        self.same(begun_octets(1, ((3, 5),) * 700), (1, 2, 188) + (3, 5) * 700)
        self.untouched(begun_octets, 1, HISTORY)

    def test_any_value(self):
        for value in [value for value in ODD if type(value) is not int] + [3, -1, 10 ** 30]:
            self.fails(Refused, value, begun_octets, value, 9)
        for value in ODD:
            if not isinstance(value, (list, tuple)):
                self.fails(BadHistory, -1, begun_octets, 0, value)
            if repr(value) != "(0, 0)":
                self.fails(BadHistory, 1, begun_octets, 2, [(3, 5), value, None])
        for letter in ((4, 0), (0, 6), (0, True), (0,), (0, 0, 0)):
            self.fails(BadHistory, 0, begun_octets, 0, (letter,))


class Pages(unittest.TestCase, Trying):
    """Point [68]: which page counts, and what it tells."""

    def agrees(self, pages):
        right = tried_journal(pages)
        if right == -1 or len(right) == 2:
            for call in (plain_journal, open_journal):
                self.fails(Broken, right, call, pages)
        else:
            self.same(plain_journal(pages), right)
            page, sign, history, presses, place = right
            left = tuple(octets[:place] if at == page else octets for at, octets in enumerate(pages))
            self.same(told(open_journal(pages)), (left, page, sign, history, presses, place))

    def test_cut_at_any_octet_of_either_page(self):
        for signs in itertools.product(range(3), repeat=2):
            one = page_of(signs[0], HISTORY[:2], [("deed", 3, 5), ("back", 0)])
            other = page_of(signs[1], HISTORY[:1], [("back", 3), ("deed", 0, 1)])
            for left in range(len(one) + 1):
                for right in range(len(other) + 1):
                    self.agrees((one[:left], other[:right]))

    def test_all_short_pages(self):
        for octets in all_rows((0, 1, 2, 3, 4, 6), 5):
            self.agrees((octets, page_of(1, ())))
            if len(octets) < 5:
                self.agrees((page_of(0, (), [("back", 1)]), octets))

    def test_bent_octets(self):
        chance = random.Random(141)
        for _ in range(3000):
            pages = []
            for _ in range(2):
                history = [(chance.randrange(4), chance.randrange(6)) for _ in range(chance.randrange(4))]
                presses = [chance.choice(PRESSES) for _ in range(chance.randrange(4))]
                octets = list(page_of(chance.randrange(3), history, presses))
                if chance.random() < 0.5:
                    octets[chance.randrange(len(octets))] = chance.choice((0, 1, 2, 3, 4, 5, 6, 255))
                pages.append(tuple(octets[:chance.randrange(len(octets) + 1)] if chance.random() < 0.5 else octets))
            self.agrees(tuple(pages))

    def test_first_octet_that_no_page_goes_on_with(self):
        good = page_of(0, HISTORY)
        for octets, place in (((3,), 0), ((255, 3), 0), ((0, 0, 1, 4), 3), ((0, 0, 1, 3, 6), 4), ((0, 0, 0, 2), 3),
                              ((0, 0, 0, 0, 4), 4), ((2, 0, 0, 0, 3, 1, 0, 6), 7), ((0, 0, 2, 0, 0, 0, 0, 0, 0, 9), 9)):
            self.fails(Broken, (0, place), plain_journal, (octets, good))
            self.fails(Broken, (1, place), plain_journal, (good, octets))
            self.fails(Broken, (0, place), open_journal, [octets, (3,)])
        self.fails(Broken, (1, 0), plain_journal, ((), (3,)))

    def test_wrong_pages(self):
        good = page_of(0, ())
        for call in (plain_journal, open_journal):
            for value in ODD:
                if not isinstance(value, (list, tuple)) or len(value) != 2:
                    self.fails(Refused, value, call, value)
                if not isinstance(value, (list, tuple)):
                    self.fails(BadOctets, -1, call, (value, 9))
                    self.fails(BadOctets, -1, call, (good, value))
            self.fails(BadOctets, 2, call, ((9, 9, 256), (-1,)))
            self.fails(BadOctets, 1, call, ((0, True), 9))
            self.fails(BadOctets, 0, call, (good, [None]))
            # Page 0 is looked at whole ahead of page 1.
            self.fails(Broken, (0, 0), call, ((9,), 9))
            self.fails(Broken, -1, call, ((), ()))
            self.fails(Broken, -1, call, (good, good))
            self.fails(Broken, -1, call, (good[:2], page_of(2, HISTORY)[:-1]))

    def test_lists_are_taken_and_left(self):
        pages = (page_of(1, HISTORY, [("back", 0)]), page_of(2, HISTORY))
        self.untouched(plain_journal, pages)
        lists = as_lists(pages)
        journal = open_journal(lists)
        lists[1].append(1)
        lists[0].append(1)
        self.same(journal.pages, pages)


class Stand:
    """What a journal has to stand for: what was kept, and what may still be lost, one thing behind another."""

    def __init__(self, state):
        self.kept, self.loose, self.sizes = state, [], []

    def lay(self, press, size):
        history, presses = (self.loose or [self.kept])[-1]
        self.loose.append((history, presses + (press,)))
        self.sizes.append(size)

    def begin(self, history):
        self.kept = (self.loose or [self.kept])[-1]
        self.loose, self.sizes = [(history, ())], [3 + 2 * len(history)]

    def keep(self):
        self.kept, self.loose, self.sizes = (self.loose or [self.kept])[-1], [], []

    def cut(self, left):
        while self.sizes and left >= self.sizes[0]:
            left -= self.sizes.pop(0)
            self.kept = self.loose.pop(0)
        self.loose, self.sizes = [], []


def some_history(chance, most=4):
    return tuple((chance.randrange(4), chance.randrange(6)) for _ in range(chance.randrange(most)))


class Journals(unittest.TestCase, Trying):
    """Point [69]."""

    def test_at_first(self):
        self.same(told(Journal()), (((0, 0, 0), ()), 0, 0, (), (), 3))
        self.same(Journal().loose(), 0)

    def test_step_by_step(self):
        journal = Journal()
        self.assertIsNone(journal.lay(["deed", 1, 2]))
        self.same(told(journal), (((0, 0, 0, 1, 1, 2), ()), 0, 0, (), (("deed", 1, 2),), 3))
        self.same(journal.loose(), 3)
        self.assertIsNone(journal.begin([[3, 5]]))
        self.same(told(journal), (((0, 0, 0, 1, 1, 2), (1, 0, 1, 3, 5)), 1, 1, ((3, 5),), (), 0))
        self.same(journal.loose(), 5)
        journal.lay(press=("back", 3))
        self.assertIsNone(journal.keep())
        self.same(told(journal)[1:], (1, 1, ((3, 5),), (("back", 3),), 7))
        journal.begin(history=())
        self.same(told(journal), (((2, 0, 0), (1, 0, 1, 3, 5, 0, 3)), 0, 2, (), (), 0))
        self.assertIsNone(journal.cut(2))
        self.same(told(journal), (((2, 0), (1, 0, 1, 3, 5, 0, 3)), 1, 1, ((3, 5),), (("back", 3),), 7))
        journal.begin(())
        journal.begin(((0, 0),))
        self.same(told(journal), (((2, 0, 0), (0, 0, 1, 0, 0)), 1, 0, ((0, 0),), (), 0))

    def random_journal(self, chance, steps):
        journal, stand = Journal(), Stand(((), ()))
        for _ in range(steps):
            step = chance.choice(("lay", "lay", "lay", "keep", "begin", "cut", "anew"))
            if step == "lay":
                press = chance.choice(PRESSES)
                journal.lay(press)
                stand.lay(press, len(write_presses([press])))
            elif step == "keep":
                journal.keep()
                stand.keep()
            elif step == "begin":
                history = some_history(chance)
                journal.begin(history)
                stand.begin(history)
            elif step == "cut":
                left = chance.randint(0, journal.loose())
                journal.cut(left)
                stand.cut(left)
            else:
                journal = open_journal(journal.pages)
                stand.keep()
            self.stands(journal, stand)
        return journal, stand

    def stands(self, journal, stand):
        self.same((journal.begun, journal.laid), (stand.loose or [stand.kept])[-1])
        self.same(journal.loose(), sum(stand.sizes))
        page, sign, history, presses, place = plain_journal(journal.pages)
        self.same((page, sign, history, presses), (journal.page, journal.sign, journal.begun, journal.laid))
        self.assertEqual(place, len(journal.pages[page]))
        self.assertEqual(journal.kept, place - journal.loose())

    def test_cut_anywhere(self):
        """Behind a cut stands all that was kept, and of the rest a first part."""
        for seed in range(60):
            steps = random.Random(seed).randrange(12)
            loose = self.random_journal(random.Random(1000 + seed), steps)[0].loose()
            for left in range(loose + 1):
                journal, stand = self.random_journal(random.Random(1000 + seed), steps)
                pages = list(journal.pages)
                pages[journal.page] = pages[journal.page][:journal.kept + left]
                journal.cut(left)
                stand.cut(left)
                self.stands(journal, stand)
                self.same(journal.loose(), 0)
                self.same(told(open_journal(tuple(pages))), told(journal))
            self.refuses(self.random_journal(random.Random(1000 + seed), steps)[0], loose)

    def refuses(self, journal, loose):
        before = told(journal)
        for value in [value for value in ODD if type(value) is not int] + [loose + 1, -1, 10 ** 30]:
            self.fails(Refused, value, journal.cut, value)
        for value in ODD + (("back", 4), ("deed", 0, 6), ("again", 0)):
            self.fails(Refused, value, journal.lay, value)
            if not isinstance(value, (list, tuple)):
                self.fails(BadHistory, -1, journal.begin, value)
            if repr(value) != "(0, 0)":
                self.fails(BadHistory, 1, journal.begin, ((3, 5), value))
        self.fails(BadHistory, 0, journal.begin, ((4, 0),))
        self.same(told(journal), before)

    def test_what_is_passed_is_not_kept(self):
        journal, history, press = Journal(), [[0, 1]], ["deed", 0, 1]
        journal.begin(history)
        journal.lay(press)
        history[0][1] = 9
        press[2] = 9
        self.same((journal.begun, journal.laid), (((0, 1),), (("deed", 0, 1),)))
        self.same((history, press), ([[0, 9]], ["deed", 0, 9]))

    def test_methods_are_defined_in_the_class(self):
        for name in ("lay", "keep", "loose", "begin", "cut"):
            self.assertIn(name, vars(Journal))

    def test_limits(self):
        chance = random.Random(142)
        begun = time.monotonic()
        journal = Journal()
        for _ in range(3):
            history = tuple((chance.randrange(4), chance.randrange(6)) for _ in range(700))
            journal.begin(history)
            for _ in range(40):
                journal.lay(chance.choice(PRESSES))
            octets = journal.pages[journal.page]
            self.same(plain_journal(journal.pages)[2], history)
            self.same(journal.loose(), len(octets))
            journal.cut(1402)
            self.same((journal.loose(), len(journal.begun) in (0, 700)), (0, True))
            journal.begin(history)
            journal.lay(("deed", 3, 5))
            journal.cut(1405)
            self.same((journal.begun, journal.laid), (history, ()))
        self.assertLess(time.monotonic() - begun, 10)
