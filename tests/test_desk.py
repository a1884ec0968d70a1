import itertools
import random
import time
import unittest

from ownback.cost import clash
from ownback.counts import count
from ownback.desk import Desk
from ownback.errors import BadText, Refused, TooGreat
from ownback.finite import finite_machine
from ownback.forms import write_presses
from ownback.growth import growth
from ownback.picture import price
from ownback.settings import write_setting
from ownback.traces import kinds_are_traces
from tests.trying import (
    LAMP, ODD, SMALL, Trying, behind_press, board_of, by_table, counts_in, presses_of, random_machines, tried_last,
    tried_table,
)

TEXT = "boards off on\nstart off\ndeed flip on off\ndeed set on on"
MACHINES = SMALL + tuple(random_machines(6, 3, 2, seed=191))
ASKED = ("kept", "alike", "last", "board", "stand", "loose", "clash", "traces", "cost", "grows")


def words_of(machine):
    boards = tuple("board" + "abcdefgh"[at] for at in range(len(machine[1][0])))
    return boards, tuple("deed" + "abcdef"[at] for at in range(len(machine[1])))


def desk_of(machine, hands):
    return Desk(write_setting((machine,) + words_of(machine)), hands)


def said(parts):
    return " ".join(str(part) for part in parts) or "."


def said_history(machine, history):
    deeds = words_of(machine)[1]
    return said(part for hand, deed in history for part in (hand, deeds[deed]))


class All:
    """All histories with as many deeds, those of each table together."""

    known = {}

    def __init__(self, machine, hands, history):
        self.machine, self.hands, self.history = machine, hands, history
        self.counts = counts_in(hands, history)
        key = (machine, self.counts)
        if key not in All.known:
            All.known[key] = {table: sorted(rows) for table, rows in by_table(machine, self.counts).items()}
        self.tables = All.known[key]
        self.table = tried_table(machine, hands, history)
        self.rows = self.tables[self.table]

    def normal(self):
        """Letter by letter from the end: the greatest hand that some history of the table ends with, the least deed."""
        rows, letters = self.rows, []
        while rows[0]:
            last = min((row[-1] for row in rows), key=lambda letter: (-letter[0], letter[1]))
            letters.append(last)
            rows = [row[:-1] for row in rows if row[-1] == last]
        return tuple(letters[::-1])

    def lasts(self):
        found = []
        for hand in range(self.hands):
            deeds = tried_last(self.machine, self.table, self.counts, hand)
            found += [(hand, deeds[0])] if deeds else []
        return tuple(found)

    def steps_to(self, other):
        """The fewest unseen steps between two of these histories: by all that lead there."""
        found, come = {self.history: 0}, [self.history]
        for row in come:
            for behind in self.neighbours(row):
                if behind in self.rows and behind not in found:
                    found[behind] = found[row] + 1
                    come.append(behind)
        return found[other]

    def neighbours(self, row):
        for at in range(len(row) - 1):
            if row[at][0] != row[at + 1][0]:
                yield row[:at] + (row[at + 1], row[at]) + row[at + 2:]
        for at, (hand, _) in enumerate(row):
            for deed in range(len(self.machine[1])):
                yield row[:at] + ((hand, deed),) + row[at + 1:]

    def backs_to(self, other):
        """The hands of the least of the fewest backs behind which the other one shows an unlike board."""
        beside = tried_table(self.machine, self.hands, other)
        vectors = itertools.product(*[range(many + 1) for many in self.counts])
        apart = [vector for vector, one, two in zip(vectors, self.table[1], beside[1]) if one != two]
        rows = [[hand for hand in range(self.hands) for _ in range(self.counts[hand] - vector[hand])] for vector in apart]
        return min(rows, key=lambda row: (len(row), row))

    def like(self, other):
        if counts_in(self.hands, other) != self.counts:
            return "numbers"
        if other in self.rows:
            return "alike %d" % self.steps_to(other)
        return "apart " + said(self.backs_to(other))


class Lines(unittest.TestCase, Trying):
    """Point [76]."""

    def test_presses_and_what_they_show(self):
        chance = random.Random(192)
        for machine in MACHINES:
            boards, deeds = words_of(machine)
            for hands in (1, 2, 3, 4):
                desk, history, laid = desk_of(machine, hands), (), []
                for _ in range(14):
                    press = chance.choice(presses_of(machine, hands))
                    line = "do %d %s" % (press[1], deeds[press[2]]) if press[0] == "deed" else "back %d" % press[1]
                    behind = behind_press(history, press)
                    if behind is None:
                        self.same(desk.say(line), "refused")
                    else:
                        history, laid = behind, laid + [press]
                        self.same(desk.say(line), boards[board_of(machine, history)])
                    self.same(desk.say("board"), boards[board_of(machine, history)])
                    self.same(desk.say("stand"), said(counts_in(hands, history)))
                    self.same(desk.say("loose"), str(len(write_presses(laid))))

    def test_keep_fold_and_cut(self):
        desk = Desk(TEXT, 2)
        lines = ["do 1 set", "keep", "do 0 flip", "loose", "cut 4", "cut 2", "stand", "do 1 flip", "fold", "nth 0", "cut 0",
                 "stand", "fold", "cut 7", "loose", "kept", "cut 0", "cut 1"]
        told = ["on", "0", "off", "3", "refused", "on", "0 1", "off", "7", "1 flip 1 flip", "off", "0 2", "7", "off", "0",
                "1 flip 1 flip", "off", "refused"]
        self.same([desk.say(line) for line in lines], told)

    def test_what_is_none_of_the_forms(self):
        desk = Desk(TEXT, 2)
        desk.say("do 0 flip")
        lines = ["", " ", "do", "do 0", "do flip", "do 0 flip set", "do 0  flip", " do 0 flip", "do 0 flip ", "do 00 flip",
                 "do 01 flip", "do -1 flip", "do 0 Flip", "do 0 2flip", "do 0 abcdefghijklm", "do 0 .", "do 1234567 flip",
                 "do + flip", "do \u0661 flip", "back", "back 0 0", "back 01", "back x", "back 1000000", "cut", "cut 0 0",
                 "cut x", "cut 00", "cut 1000000", "nth", "nth .", "nth 0 1", "keep 0", "fold .", "loose 1", "board off",
                 "stand 0", "kept .", "alike 0", "last 0", "cost 0", "grows 0", "clash .", "traces 0", "like",
                 "like 0", "like 0 flip 1", "like flip", "like . 0 flip", "like 0 flip .", "like ..", "like  .", "kinds",
                 "kinds 1", "kinds 1 1 1", "kinds 1 x", "kinds 01 1", "kinds . 1", "Do 0 flip", "undo 0", "board\n",
                 "board\nboard", "n", "0", "refused", "again 0", "do 0 flip\n", "do\t0 flip", "like 0 flip 1 1"]
        for value in list(ODD) + lines:
            self.fails(BadText, 0, desk.say, value)
        self.same(desk.say(line="stand"), "1 0")

    def test_refused_changes_nothing(self):
        desk = Desk(TEXT, 2)
        desk.say("do 0 flip")
        asked = [line for line in ASKED if line != "loose"]
        before = [desk.say(line) for line in asked + ["loose"]]
        for line in ("do 2 flip", "do 9 flip", "do 999999 flip", "do 0 flop", "do 1 off", "do 9 flop", "back 1", "back 2",
                     "back 4", "back 999999", "cut 4", "cut 999999", "nth 2", "nth 999999", "like 2 flip",
                     "like 0 flop", "like 0 flip 1 flop", "like 5 x 6 y"):
            self.same(desk.say(line), "refused")
            self.same([desk.say(line) for line in asked + ["loose"]], before)

    def test_numbers_to_six_figures(self):
        desk = Desk(TEXT, 2)
        self.same([desk.say("do %d set" % hand) for hand in (0, 1, 9, 10, 999999)], ["on", "on"] + ["refused"] * 3)
        self.same(desk.say("kinds 0 0"), "1")

    def test_made(self):
        for value in ODD:
            self.fails(BadText, 1 if isinstance(value, str) else 0, Desk, value, 9)
        self.fails(BadText, 5, Desk, TEXT + "\n", 2)
        for value in [value for value in ODD if type(value) is not int] + [0, 5, -1]:
            self.fails(Refused, value, Desk, TEXT, value)
        self.same(Desk(text=TEXT, hands=4).say("stand"), "0 0 0 0")
        self.assertIn("say", vars(Desk))

    def test_nothing_done(self):
        desk = Desk(TEXT, 3)
        lines = ("kept", "alike", "nth 0", "nth 1", "last", "like .", "like 0 set", "cost", "loose", "board", "back 0")
        told = [".", "1", ".", "refused", ".", "alike 0", "numbers", "1 1 0", "0", "off", "refused"]
        self.same([desk.say(line) for line in lines], told)


class Asked(unittest.TestCase, Trying):
    """Point [77]."""

    def histories(self, machine, hands, chance):
        many = {1: 4, 2: 4, 3: 3, 4: 3}[hands]
        for _ in range(3):
            yield tuple((chance.randrange(hands), chance.randrange(len(machine[1]))) for _ in range(chance.randint(0, many)))

    def test_beside_all_histories(self):
        chance = random.Random(193)
        for machine in MACHINES:
            deeds = words_of(machine)[1]
            for hands in (1, 2, 3, 4):
                for history in self.histories(machine, hands, chance):
                    desk = desk_of(machine, hands)
                    for hand, deed in history:
                        desk.say("do %d %s" % (hand, deeds[deed]))
                    self.asked(desk, All(machine, hands, history), chance)
                    desk.say("fold")
                    self.asked(desk, All(machine, hands, All(machine, hands, history).normal()), chance)

    def asked(self, desk, every, chance):
        machine, rows = every.machine, every.rows
        self.same(desk.say("kept"), said_history(machine, every.normal()))
        self.same(desk.say("alike"), str(len(rows)))
        for number, row in list(enumerate(rows))[:6]:
            self.same(desk.say("nth %d" % number), said_history(machine, row))
        self.same(desk.say("nth %d" % len(rows)), "refused")
        self.same(desk.say("last"), said_history(machine, every.lasts()))
        others = [row for table in every.tables.values() for row in table]
        for other in chance.sample(others, min(4, len(others))) + [rows[0], rows[-1], (), every.history[1:]]:
            self.same(desk.say("like " + said_history(machine, other)), every.like(other))

    def test_hangs_on_the_table_alone(self):
        chance = random.Random(194)
        for machine in MACHINES:
            deeds = words_of(machine)[1]
            for counts in ((2, 1), (1, 1, 1)):
                for rows in list(by_table(machine, counts).values())[:3]:
                    told = set()
                    for history in (rows[0], rows[-1], chance.choice(rows)):
                        desk = desk_of(machine, len(counts))
                        for hand, deed in history:
                            desk.say("do %d %s" % (hand, chance.choice(deeds)))
                            desk.say("back %d" % hand)
                            desk.say("do %d %s" % (hand, deeds[deed]))
                        told.add(tuple(desk.say(line) for line in ASKED if line != "loose"))
                    self.assertEqual(len(told), 1)

    def test_of_the_machine(self):
        for machine in MACHINES + ((0, ((0, 0, 2), (1, 0, 0))),):
            deeds = words_of(machine)[1]
            found = clash(machine)
            told = "none" if found is None else said(deeds[deed] for deed in found[1:] + found[0])
            for hands in (1, 2):
                desk = desk_of(machine, hands)
                self.same(desk.say("clash"), told)
                self.same(desk.say("traces"), "yes" if kinds_are_traces(machine, hands) else "no")
                self.same(desk.say("grows"), said(growth(finite_machine(machine, hands, most=2000))))
                for counts in itertools.product(range(3), repeat=hands):
                    self.same(desk.say("kinds " + said(counts)), str(count(machine, counts, most=2000)))
        self.same(desk_of((0, ((1, 1, 2), (2, 1, 2))), 2).say("clash"), "deeda deedb")
        self.same(desk_of((0, ((1, 2, 2), (0, 1, 0))), 2).say("clash"), "deeda deedb deeda")

    def test_growth_in_all_ways(self):
        told = {desk_of(machine, hands).say("grows").split()[0] for machine in MACHINES for hands in (1, 2)}
        self.assertEqual(told, {"bounded", "power", "multiplied"})
        self.same(desk_of((0, ((0,),)), 1).say("grows"), "bounded 1")
        self.same(desk_of((0, ((1, 0),)), 2).say("grows"), "power 1")

    def test_cost(self):
        for machine in MACHINES:
            deeds = words_of(machine)[1]
            desk = desk_of(machine, 2)
            for hand in (0, 1, 1, 0):
                desk.say("do %d %s" % (hand, deeds[-1]))
            self.same(desk.say("cost"), said(price(machine, (2, 2), most=2000)))

    def test_too_great(self):
        machine = random_machines(1, 8, 6, seed=195)[0]
        great = (0, tuple(tuple((board * (deed + 2) + deed) % 8 for board in range(8)) for deed in range(6)))
        for tried in (machine, great):
            desk = desk_of(tried, 4)
            try:
                finite_machine(tried, 4, most=2000)
            except TooGreat:
                self.same(desk.say("grows"), "refused")
                self.same(desk.say("stand"), "0 0 0 0")
        with self.assertRaises(TooGreat):
            finite_machine(great, 4, most=2000)
        self.same(desk_of(great, 4).say("kinds 2 2 2 2"), "refused")
        # Just 2000 situations, and one more.
        machine, counts = (0, ((0, 2, 3, 2), (2, 1, 1, 1))), (1, 3, 4)
        self.same(desk_of(machine, 3).say("kinds 1 3 4"), str(count(machine, counts, most=2000)))
        self.fails(TooGreat, 1999, count, machine, counts, most=1999)
        machine = (0, ((1, 1, 0, 3), (1, 2, 3, 1), (2, 2, 0, 2)))
        self.same(desk_of(machine, 3).say("kinds 1 4 1"), "refused")
        self.assertGreater(count(machine, (1, 4, 1), most=2001), 0)

    def test_limits(self):
        begun = time.monotonic()
        chance = random.Random(196)
        for machine in random_machines(4, 8, 6, seed=197):
            desk, stands = desk_of(machine, 4), 0
            deeds = words_of(machine)[1]
            for _ in range(200):
                if stands < 12 and chance.random() < 0.5:
                    desk.say("do %d %s" % (chance.randrange(4), chance.choice(deeds)))
                else:
                    desk.say(chance.choice(("back 0", "back 1", "back 2", "back 3", "kept", "alike", "nth 3", "last", "keep",
                                            "like 0 deeda 1 deeda", "fold", "cut 2", "loose", "traces", "clash")))
                stands = sum(int(word) for word in desk.say("stand").split())
        for machine, hands in ((SMALL[6], 2), (LAMP, 2), ((0, ((1, 2, 3, 0),)), 3), (random_machines(1, 8, 6)[0], 1)):
            self.assertNotIn("refused", (desk_of(machine, hands).say("grows"), desk_of(machine, 2).say("kinds 3 3")))
        self.assertLess(time.monotonic() - begun, 20)
