import random
import re
import unittest

from ownback.errors import BadText, Refused
from ownback.settings import check_setting, read_setting, write_setting
from tests.trying import LAMP, ODD, SMALL, Trying, random_machines

TEXT = "boards off on\nstart off\ndeed flip on off\ndeed set on on"
SETTING = (LAMP, ("off", "on"), ("flip", "set"))
WORD = re.compile(r"[a-z][a-z0-9]{0,11}")
WORDS = ("a", "b2", "abcdefghijkl", "boards", "start", "deed", "z99999999999", "on", "off", "x0", "y", "zz")
NO_WORDS = ("", "A", "2b", "abcdefghijklm", "a-b", "a_b", "aB", " a", "a ", "a\n", "\u00e9", "a\u0661", "\u0661", ".", "a\tb", "a\r")


def is_text_begun(lines):
    """Whether lines are the first ones of the text of some setting; by one expression for each line."""
    boards = lines[0].split(" ")[1:]
    if not lines[0].startswith("boards ") or not 1 <= len(boards) <= 8 or len(set(boards)) < len(boards):
        return False
    if not all(WORD.fullmatch(word) for word in boards) or len(lines) > 8:
        return False
    if len(lines) > 1 and lines[1] not in ["start " + word for word in boards]:
        return False
    board = "(" + "|".join(boards) + ")"
    deeds = [re.fullmatch("deed ([a-z][a-z0-9]{0,11})" + (" " + board) * len(boards), line) for line in lines[2:]]
    names = [deed and deed.group(1) for deed in deeds]
    return None not in names and len(set(names)) == len(names)


def tried_line(text):
    """Which line is told of a text that is none, None if it is one."""
    lines = text.split("\n")
    for many in range(1, len(lines) + 1):
        if not is_text_begun(lines[:many]):
            return many
    return len(lines) + 1 if len(lines) < 3 else None


def settings(many, seed):
    chance = random.Random(seed)
    for machine in SMALL + tuple(random_machines(many, 8, 6, seed=seed)):
        boards = tuple(chance.sample(WORDS, len(machine[1][0])))
        yield machine, boards, tuple(chance.sample(WORDS, len(machine[1])))


class Settings(unittest.TestCase, Trying):
    """Point [75]."""

    def agrees(self, text):
        line = tried_line(text)
        if line is None:
            setting = read_setting(text)
            self.same(write_setting(setting), text)
            self.same(check_setting(setting), setting)
        else:
            self.fails(BadText, line, read_setting, text)

    def test_written_and_read(self):
        for setting in settings(40, 181):
            text = write_setting(setting)
            self.same(read_setting(text), setting)
            self.assertIsNone(tried_line(text))
            self.same(check_setting(setting), setting)
            self.untouched(check_setting, setting)
            self.untouched(write_setting, setting)
        self.same(write_setting((LAMP, ["off", "on"], ["flip", "set"])), TEXT)
        self.same(read_setting(text=TEXT), SETTING)

    def test_cut_anywhere(self):
        for setting in list(settings(6, 182))[-8:]:
            text = write_setting(setting)
            for left in range(len(text)):
                self.agrees(text[:left])
                self.agrees(text[:left] + text[left + 1:])

    def test_bent_at_a_word_a_line_a_blank(self):
        chance = random.Random(183)
        for setting in settings(20, 184):
            lines = write_setting(setting).split("\n")
            for _ in range(40):
                bent = [line.split(" ") for line in lines]
                at = chance.randrange(len(bent))
                place = chance.randrange(len(bent[at]))
                kind = chance.randrange(7)
                if kind == 0:
                    bent[at][place] = chance.choice(WORDS + NO_WORDS)
                elif kind == 1:
                    del bent[at][place]
                elif kind == 2:
                    bent[at].insert(place, chance.choice(WORDS + NO_WORDS))
                elif kind == 3:
                    del bent[at]
                elif kind == 4:
                    bent.insert(at, list(chance.choice(bent)))
                elif kind == 5:
                    bent.append(list(chance.choice(bent)))
                else:
                    chance.shuffle(bent)
                self.agrees("\n".join(" ".join(words) for words in bent))

    def test_lines(self):
        for text, line in (
            ("", 1), ("boards", 1), ("boards ", 1), ("boards a a", 1), ("boards a  b", 1), ("Boards a", 1),
            (" boards a", 1), ("boards a ", 1), ("boards a", 2), ("boards a\n", 2), ("boards a\nstart", 2),
            ("boards a\nstart b", 2), ("boards a\nstart a a", 2), ("boards a\nstart a", 3), ("boards a\nstart a\n", 3),
            ("boards a\nstart a\ndeed d a\n", 4), ("boards a\nstart a\ndeed d", 3), ("boards a\nstart a\ndeed d b", 3),
            ("boards a\nstart a\ndeed d a a", 3), ("boards a\nstart a\ndeed d a\ndeed d a", 4),
            ("boards a\nstart a\n\ndeed d a", 3), ("boards a\r\nstart a\r\ndeed d a", 1), ("\n" + TEXT, 1),
            ("boards a b c d e f g h i\nstart a", 1), ("boards a\tb", 1), ("boards a2345678901234", 1),
            ("boards 1a", 1), ("start a\nboards a\ndeed d a", 1), ("boards a\ndeed d a\nstart a", 2),
        ):
            self.assertEqual(tried_line(text), line)
            self.fails(BadText, line, read_setting, text)
        deeds = ["deed d%d a" % at for at in range(7)]
        self.same(read_setting("\n".join(["boards a", "start a"] + deeds[:6]))[2], ("d0", "d1", "d2", "d3", "d4", "d5"))
        self.fails(BadText, 9, read_setting, "\n".join(["boards a", "start a"] + deeds))
        self.fails(BadText, 9, read_setting, "\n".join(["boards a", "start a"] + deeds[:6] + [""]))

    def test_boards_and_deeds_may_have_one_word(self):
        text = "boards boards start deed\nstart start\ndeed start deed start boards\ndeed deed deed deed deed"
        self.same(read_setting(text), ((1, ((2, 1, 0), (2, 2, 2))), ("boards", "start", "deed"), ("start", "deed")))

    def test_any_value_as_a_text(self):
        for value in ODD:
            self.fails(BadText, 1 if isinstance(value, str) else 0, read_setting, value)

    def test_any_value_as_a_setting(self):
        for call in (check_setting, write_setting):
            for value in ODD:
                self.fails(Refused, value, call, value)
                for at in range(3):
                    if value != ("a", "b"):
                        bent = SETTING[:at] + (value,) + SETTING[at + 1:]
                        self.fails(Refused, bent, call, bent)
                for words in (("off", value), [value, "on"]):
                    if value not in ("deed", "back", "aa"):
                        bent = (LAMP, words, ("flip", "set"))
                        self.fails(Refused, bent, call, bent)
            for word in NO_WORDS:
                bent = [LAMP, ["off", word], ["flip", "set"]]
                self.fails(Refused, bent, call, bent)
                bent = (LAMP, ("off", "on"), (word, "set"))
                self.fails(Refused, bent, call, bent)
            for bent in ((LAMP, ("on", "on"), ("a", "b")), (LAMP, ("on", "off"), ("a", "a")), (LAMP, ("on",), ("a", "b")),
                         (LAMP, ("on", "off"), ("a",)), (LAMP, ("a", "b", "c"), ("a", "b")), SETTING + (1,), SETTING[:2],
                         ((2, LAMP[1]), ("a", "b"), ("a", "b")), (LAMP, "ab", ("a", "b"))):
                self.fails(Refused, bent, call, bent)
        for word in WORDS:
            self.same(check_setting((LAMP, (word, "q"), (word, "q")))[1], (word, "q"))

    def test_limits(self):
        for setting in list(settings(20, 185)):
            text = write_setting(setting)
            self.assertLessEqual(len(text), 2000)
            self.same(read_setting(text), setting)
        self.fails(BadText, 1, read_setting, "boards " + "a" * 2000)
        self.fails(BadText, 4, read_setting, "boards a\nstart a\ndeed d a" + "\n" * 2000)
