import itertools
import random
import unittest

from ownback.errors import BadHistory, BadOctets, Broken, Refused
from ownback.forms import check_press, healing, is_press, press_at, press_octets, read_presses, write_presses
from tests.trying import ODD, Trying, all_rows

PRESSES = [("deed", hand, deed) for hand in range(4) for deed in range(6)] + [("back", hand) for hand in range(4)]
NO_PRESSES = [
    ("deed", 4, 0), ("deed", 0, 6), ("deed", -1, 0), ("back", 4), ("back", 0, 0), ("deed", 0), ("Deed", 0, 0),
    ("deed", True, 0), ("deed", 0, True), ("back", False), ("back", None), ("back", "1"), ("again", 0), "back", "deed",
    (["back"], 0), ("deed", [0], 0), ("deed", 0, 0, 0), ("back",), (1, 0, 0),
]
BAD_OCTETS = [(value, -1) for value in ODD if not isinstance(value, (list, tuple))] + [
    ([256], 0), ((0, 255, -1), 2), ([0, True], 1), ((0, None, 300), 1), ([[0]], 0), ("00", -1), ((0, 1, "1"), 2),
]


def form(press):
    return (0, press[1]) if press[0] == "back" else (1, press[1], press[2])


FORMS = {form(press): press for press in PRESSES}
BEGUN = {whole[:length] for whole in FORMS for length in range(len(whole) + 1)}


def tried_reading(octets):
    """By trying forms: the presses, the place behind, the first octet nothing can be gone on with (or None)."""
    presses, at = [], 0
    while True:
        whole = [length for length in (2, 3) if octets[at:at + length] in FORMS]
        if not whole:
            break
        presses.append(FORMS[octets[at:at + whole[0]]])
        at += whole[0]
    for length in range(1, len(octets) - at + 1):
        if octets[at:at + length] not in BEGUN:
            return tuple(presses), at, at + length - 1
    return tuple(presses), at, None


class Presses(unittest.TestCase, Trying):
    """Point [5]."""

    def test_presses(self):
        for press in PRESSES:
            self.same(is_press(press), True)
            self.same(is_press(list(press)), True)
            self.same(check_press(list(press)), press)
            self.same(check_press(value=press), press)

    def test_any_value_that_is_none(self):
        for value in NO_PRESSES + list(ODD):
            self.same(is_press(value), False)
            self.fails(Refused, value, check_press, value)
            self.fails(Refused, value, press_octets, value)


class Writing(unittest.TestCase, Trying):
    """Point [6]: forms."""

    def test_forms(self):
        for press in PRESSES:
            self.same(press_octets(press), form(press))
            self.untouched(press_octets, press)
            self.same(write_presses([press, press]), form(press) * 2)
        self.same(write_presses(()), ())
        self.same(write_presses([]), ())

    def test_no_form_begins_another(self):
        for one, other in itertools.permutations(FORMS, 2):
            self.assertNotEqual(other[:len(one)], one)

    def test_wrong_presses(self):
        for value in ODD:
            if not isinstance(value, (list, tuple)):
                self.fails(BadHistory, -1, write_presses, value)
        for value in NO_PRESSES:
            self.fails(BadHistory, 0, write_presses, [value])
            self.fails(BadHistory, 2, write_presses, (("back", 0), ["deed", 0, 0], value, value))
        self.fails(BadHistory, 0, write_presses, ("back", 0))


class Reading(unittest.TestCase, Trying):
    """Point [6]: reading."""

    def test_what_was_written_is_read(self):
        chance = random.Random(5)
        for _ in range(200):
            presses = tuple(chance.choice(PRESSES) for _ in range(chance.randrange(9)))
            octets = write_presses(presses)
            self.same(read_presses(octets), (presses, len(octets)))
            self.same(healing(octets), ())
            ahead = tuple(chance.randrange(256) for _ in range(chance.randrange(4)))
            behind = tuple(chance.randrange(256) for _ in range(chance.randrange(4)))
            at = len(ahead)
            for press in presses:
                place = at + len(form(press))
                self.same(press_at(ahead + octets + behind, at), (press, place))
                at = place

    def test_cut_anywhere(self):
        octets = write_presses(PRESSES)
        ends = [0]
        for press in PRESSES:
            ends.append(ends[-1] + len(form(press)))
        for left in range(len(octets) + 1):
            many = max(k for k, end in enumerate(ends) if end <= left)
            self.same(read_presses(octets[:left]), (tuple(PRESSES[:many]), ends[many]))

    def test_all_short_octets(self):
        for octets in all_rows((0, 1, 2, 3, 4, 5, 6, 255), 4):
            presses, behind, wrong = tried_reading(octets)
            if wrong is not None:
                self.fails(Broken, wrong, read_presses, octets)
                self.fails(Broken, wrong, healing, octets)
            else:
                self.same(read_presses(octets), (presses, behind))
                self.same(healing(octets), self.tried_healing(octets[behind:]))
                self.untouched(read_presses, octets)
                self.untouched(healing, octets)
            self.one_form(octets)

    def tried_healing(self, rest):
        if rest == ():
            return ()
        return min((whole[len(rest):] for whole in FORMS if whole[:len(rest)] == rest), key=lambda row: (len(row), row))

    def one_form(self, octets):
        for at in range(len(octets) + 3):
            rest = octets[at:]
            whole = [length for length in (2, 3) if rest[:length] in FORMS]
            unfit = [length for length in range(len(rest) + 1) if rest[:length] not in BEGUN]
            if whole:
                self.same(press_at(octets, at), (FORMS[rest[:whole[0]]], at + whole[0]))
            elif unfit:
                self.fails(Broken, at + unfit[0] - 1, press_at, octets, at)
            else:
                self.fails(Broken, len(octets), press_at, octets, at)

    def test_far_behind_them_all(self):
        self.fails(Broken, 3, press_at, (9, 9, 9), 10 ** 30)
        self.fails(Broken, 0, press_at, [], 0)

    def test_wrong_octets(self):
        for octets, at in BAD_OCTETS:
            self.fails(BadOctets, at, press_at, octets, 0)
            self.fails(BadOctets, at, press_at, octets, None)
            self.fails(BadOctets, at, read_presses, octets)
            self.fails(BadOctets, at, healing, octets)

    def test_no_number_is_no_place(self):
        for value in (None, True, -1, "0", (), [0], Refused(0)):
            self.fails(Refused, value, press_at, (0, 0), value)
            self.fails(Refused, value, press_at, (255,), value)

    def test_limits(self):
        presses = tuple(PRESSES[k * 5 - k // 6] for k in range(6)) * 34
        octets = write_presses(presses[:200])
        self.same(read_presses(octets)[0], presses[:200])
        self.same(healing((1, 2, 3) * 133 + (1,)), (0, 0))
