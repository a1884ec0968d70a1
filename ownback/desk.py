"""A desk of lines: it does what a line tells, and says what there is to say."""

from ownback.antimatroid import histories_many, nth_history
from ownback.book import new_book
from ownback.cost import clash
from ownback.counts import count
from ownback.errors import NoBoard, NoDeed, NoHand, OwnError
from ownback.finite import finite_machine
from ownback.growth import growth
from ownback.histories import counts_of
from ownback.lasts import lasts
from ownback.lines import history_said, joined, parts_said, words_told
from ownback.normal import normal_of
from ownback.picture import compare, price
from ownback.settings import read_setting
from ownback.tables import table_of
from ownback.traces import kinds_are_traces

MOST = 2000


def deed_named(desk, word):
    if word not in desk.deeds:
        raise NoDeed(word)
    return desk.deeds.index(word)


def table_now(desk):
    return table_of(desk.machine, desk.hands, desk.book.history)


def counts_now(desk):
    return counts_of(desk.hands, desk.book.history)


def say_board(desk, _):
    return desk.boards[desk.book.board_now()]


def say_loose(desk, _):
    return str(desk.book.loose())


def say_do(desk, told):
    desk.book.take(("deed", told[0], deed_named(desk, told[1])))
    return say_board(desk, ())


def say_back(desk, told):
    desk.book.take(("back", told[0]))
    return say_board(desk, ())


def say_cut(desk, told):
    desk.book.cut(told[0])
    return say_board(desk, ())


def say_keep(desk, _):
    desk.book.keep()
    return say_loose(desk, ())


def say_fold(desk, _):
    desk.book.fold()
    return say_loose(desk, ())


def say_stand(desk, _):
    return parts_said(counts_now(desk))


def say_kept(desk, _):
    return history_said(normal_of(desk.machine, desk.hands, desk.book.history), desk.deeds)


def say_alike(desk, _):
    return str(histories_many(desk.machine, table_now(desk)))


def say_nth(desk, told):
    return history_said(nth_history(desk.machine, table_now(desk), told[0]), desk.deeds)


def say_last(desk, _):
    return history_said(lasts(desk.machine, table_now(desk)), desk.deeds)


def say_like(desk, told):
    history = [(told[at], deed_named(desk, told[at + 1])) for at in range(0, len(told), 2)]
    found = compare(desk.machine, desk.hands, desk.book.history, history)
    if found[0] == "alike":
        return "alike " + str(len(found[1]))
    if found[0] == "apart":
        return "apart " + parts_said([press[1] for press in found[1]])
    return found[0]


def say_cost(desk, _):
    return parts_said(price(desk.machine, counts_now(desk), most=MOST))


def say_kinds(desk, told):
    return str(count(desk.machine, told, most=MOST))


def say_grows(desk, _):
    return parts_said(growth(finite_machine(desk.machine, desk.hands, most=MOST)))


def say_clash(desk, _):
    found = clash(desk.machine)
    if found is None:
        return "none"
    row, one, other = found
    return joined([desk.deeds[deed] for deed in (one, other) + row])


def say_traces(desk, _):
    return "yes" if kinds_are_traces(desk.machine, desk.hands) else "no"


SAYING = {
    "do": say_do,
    "back": say_back,
    "keep": say_keep,
    "fold": say_fold,
    "cut": say_cut,
    "loose": say_loose,
    "board": say_board,
    "stand": say_stand,
    "kept": say_kept,
    "alike": say_alike,
    "nth": say_nth,
    "last": say_last,
    "like": say_like,
    "cost": say_cost,
    "kinds": say_kinds,
    "grows": say_grows,
    "clash": say_clash,
    "traces": say_traces,
}


class Desk:
    """A desk of a setting, at which nothing was done yet."""

    def __init__(self, text, hands):
        self.machine, self.boards, self.deeds = read_setting(text)
        self.book = new_book(self.machine, hands)
        self.hands = hands

    def say(self, line):
        word, told = words_told(line, self.hands)
        action = SAYING[word]
        try:
            return action(self, told)
        except (OwnError, NoHand, NoDeed, NoBoard):
            return "refused"
