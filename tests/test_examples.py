"""The examples of the document, as they stand there."""

import doctest
import pathlib
import unittest

PRESSES = '''
    >>> from ownback.forms import check_press, healing, press_at, press_octets, read_presses, write_presses
    >>> press_octets(("deed", 1, 5)), press_octets(["back", 3]), check_press(["deed", 0, 0])
    ((1, 1, 5), (0, 3), ('deed', 0, 0))
    >>> write_presses([("deed", 0, 2), ("back", 0)]), press_at((9, 0, 2, 7), 1)
    ((1, 0, 2, 0, 0), (('back', 2), 3))
    >>> read_presses((0, 3, 1, 2, 4, 1)), healing((0, 3, 1, 2, 4, 1)), healing((0, 3))
    (((('back', 3), ('deed', 2, 4)), 5), (0, 0), ())
'''
MACHINES = '''
    >>> from ownback.machines import boards_come, come_by, led, machine_octets, names_come, trimmed
    >>> machine = (1, ((0, 0, 2, 3), (1, 2, 0, 0)))
    >>> led(machine, 1, (0, 1, 1)), boards_come(machine), come_by(machine, 2), come_by(machine, 3), names_come(machine)
    (2, (0, 1, 2), (1,), None, (1, 0, 2))
    >>> trimmed(machine), machine_octets(machine)
    ((0, ((1, 1, 2), (2, 0, 1))), (4, 1, 2, 0, 0, 2, 3, 1, 2, 0, 0))
'''
LOTS = '''
    >>> from ownback.lots import commute_at, doing, done_pairs, kinds_on, led_lot, like_on, unlike_at
    >>> machine = (0, ((0, 0, 2), (1, 0, 2), (0, 1, 2)))
    >>> led_lot(machine, (0, 1), 0), like_on(machine, (1, 2), 1), kinds_on(machine, (1, 2)), unlike_at(machine, 0, 1)
    ((0,), (0, 1), ((0, 1), (2,)), (0,))
    >>> doing(machine, ((1, 0), (2, 2))), done_pairs(machine, (0, 1), 1), [commute_at(machine, 0, 1, deed) for deed in (0, 2)]
    ((0, 1), ((0, 1), (1, 0)), [False, True])
'''
LOOKS = '''
    >>> from ownback.looks import alike_boards, least_machine, look_alike, parting_deeds, parting_row
    >>> ring = (0, ((1, 2, 3, 0),))
    >>> alike_boards(ring, (0, 1, 0, 1)), least_machine(ring, (0, 1, 0, 1)), parting_deeds(ring, (0, 0, 0, 1), 0, 1)
    ((0, 1, 0, 1), ((0, ((1, 0),)), (0, 1), (0, 1, 0, 1)), (0, 0))
    >>> light = (0, ((1, 0),))
    >>> look_alike(ring, (0, 1, 0, 1), light, (0, 1)), parting_row(ring, (0, 0, 0, 1), light, (0, 1))
    (True, (0,))
'''


class Examples(unittest.TestCase):

    def holds(self, text):
        test = doctest.DocTestParser().get_doctest(text, {}, "example", None, 0)
        told = []
        failed, tried = doctest.DocTestRunner(verbose=False).run(test, out=told.append)
        self.assertEqual(failed, 0, "".join(told))
        self.assertGreater(tried, 1)

    def test_presses(self):
        self.holds(PRESSES)

    def test_machines(self):
        self.holds(MACHINES)

    def test_lots(self):
        self.holds(LOTS)

    def test_looks(self):
        self.holds(LOOKS)

    def test_readme(self):
        path = pathlib.Path(__file__).resolve().parent.parent / "README.md"
        self.holds(path.read_text(encoding="utf-8"))
