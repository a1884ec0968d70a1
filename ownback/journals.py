"""Journals: presses laid on two pages of octets, which tell what was kept wherever they are cut."""

from ownback.checks import OCTETS, begun_at, check_octets, is_below, is_number, is_pair
from ownback.errors import Broken, Refused
from ownback.forms import DEEDS, HANDS, check_press, octets_of_press, whole_presses
from ownback.histories import as_history

SIGNS = 3
AHEAD = 3


def as_begun(sign, history):
    """The octets with which a page is begun; all is checked."""
    octets = [sign, len(history) // OCTETS, len(history) % OCTETS]
    for letter in history:
        octets.extend(letter)
    return tuple(octets)


def check_begun(history):
    return as_history(history, HANDS, DEEDS)


def begun_octets(sign, history):
    if not is_below(sign, SIGNS):
        raise Refused(sign)
    return as_begun(sign, check_begun(history))


def span_in_page(begun):
    """The span of the octet behind those with which a page is begun, None if these are whole."""
    if len(begun) == 0:
        return (0, SIGNS)
    if len(begun) < AHEAD:
        return (0, OCTETS)
    letters, place = divmod(len(begun) - AHEAD, 2)
    if letters == begun[1] * OCTETS + begun[2]:
        return None
    return (0, HANDS) if place == 0 else (0, DEEDS)


def sign_behind(sign):
    return (sign + 1) % SIGNS


def told_by(octets):
    """(sign, history, presses, place behind them) of a page of checked octets, None if it is not begun whole."""
    begun, span = begun_at(octets, 0, span_in_page)
    if span is not None:
        return None
    history = tuple([(begun[at], begun[at + 1]) for at in range(AHEAD, len(begun), 2)])
    presses, place = whole_presses(octets, len(begun))
    return begun[0], history, presses, place


def read_page(page, octets):
    octets = check_octets(octets)
    try:
        return told_by(octets)
    except Broken as broken:
        raise Broken((page, broken.at))


def counting(first, second):
    """Which of two pages counts, of what they tell."""
    if first is None and second is None:
        raise Broken(-1)
    if first is None or second is None:
        return 1 if first is None else 0
    if first[0] == second[0]:
        raise Broken(-1)
    return 1 if second[0] == sign_behind(first[0]) else 0


def plain_journal(pages):
    if not is_pair(pages):
        raise Refused(pages)
    told = [read_page(page, octets) for page, octets in enumerate(pages)]
    page = counting(told[0], told[1])
    sign, history, presses, place = told[page]
    return page, sign, history, presses, place


def with_page(pages, page, octets):
    return (octets, pages[1]) if page == 0 else (pages[0], octets)


class Journal:
    """Two pages: one is written to, and the other one counts till that is begun whole."""

    def __init__(self):
        self.pages = (as_begun(0, ()), ())
        self.page = 0
        self.sign = 0
        self.begun = ()
        self.laid = ()
        self.kept = len(self.pages[0])

    def lay(self, press):
        told = check_press(press)
        self.pages = with_page(self.pages, self.page, self.pages[self.page] + octets_of_press(told))
        self.laid = self.laid + (told,)

    def keep(self):
        self.kept = len(self.pages[self.page])

    def loose(self):
        return len(self.pages[self.page]) - self.kept

    def begin(self, history):
        begun = check_begun(history)
        self.page = 1 - self.page
        self.sign = sign_behind(self.sign)
        self.begun = begun
        self.laid = ()
        self.pages = with_page(self.pages, self.page, as_begun(self.sign, begun))
        self.kept = 0

    def cut(self, left):
        if not is_number(left) or left > self.loose():
            raise Refused(left)
        stays = self.pages[self.page][:self.kept + left]
        self.take_up(with_page(self.pages, self.page, stays))

    def take_up(self, pages):
        """What two pages tell: the one that counts is written to, behind what is whole there."""
        page, sign, history, presses, place = plain_journal(pages)
        octets = (tuple(pages[0]), tuple(pages[1]))
        self.pages = with_page(octets, page, octets[page][:place])
        self.page = page
        self.sign = sign
        self.begun = history
        self.laid = presses
        self.kept = place


def open_journal(pages):
    journal = Journal()
    journal.take_up(pages)
    return journal
