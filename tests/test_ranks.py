import random
import time
import unittest

from ownback.errors import BadHistory, BadMachine, BadOctets, Broken, NoHand, Refused, TooGreat
from ownback.normal import normal_of
from ownback.ranks import fewest_octets, packed, rank_of, ranked, unpacked
from tests.trying import LAMP, ODD, SMALL, Trying, by_table, random_machines

LIGHT = (0, ((1, 0), (0, 1)))
MACHINES = SMALL + tuple(random_machines(8, 3, 3, seed=71))
COUNTS = ((0,), (4,), (2, 1), (2, 2), (1, 1, 1), (0, 2, 0, 1))
STILL = (0, ((0,),))


def normals(machine, counts):
    """Ascending the normal histories with these counts, each with all histories that are alike to it."""
    found = {}
    for histories in by_table(machine, counts).values():
        found[normal_of(machine, len(counts), histories[0])] = histories
    return sorted(found.items())


class Ranks(unittest.TestCase, Trying):
    """Point [70], what it says of ranks."""

    def test_against_all_histories(self):
        for machine in MACHINES:
            for counts in COUNTS:
                for rank, (history, alike) in enumerate(normals(machine, counts)):
                    self.same(ranked(machine, counts, rank, most=2000), history)
                    for other in alike[:3]:
                        self.same(rank_of(machine, len(counts), other, most=2000), rank)

    def test_octets(self):
        for machine in MACHINES:
            for counts in COUNTS:
                told = normals(machine, counts)
                size = 0
                while 256 ** size < len(told):
                    size += 1
                self.same(fewest_octets(machine, counts, most=2000), size)
                for rank, (history, alike) in enumerate(told):
                    octets = tuple(rank.to_bytes(size, "big"))
                    self.same(packed(machine, len(counts), alike[-1], most=2000), octets)
                    self.same(unpacked(machine, counts, octets, most=2000), history)

    def test_edges_of_octets(self):
        for machine, counts, size in ((STILL, (3, 3), 0), (LIGHT, (1,), 1), (LIGHT, (8,), 1), (LIGHT, (9,), 2),
                                      (LIGHT, (4, 4), 1), (LIGHT, (4, 5), 2), (LIGHT, (16,), 2), (LIGHT, (17,), 3)):
            self.same(fewest_octets(machine, counts, most=2000), size)
        self.same(packed(LIGHT, 1, ((0, 1),) * 8, most=9), (255,))
        self.same(packed(LIGHT, 1, ((0, 1),) * 9, most=9), (1, 255))
        self.same(unpacked(LIGHT, (9,), [1, 0], most=9), ((0, 1),) + ((0, 0),) * 8)
        self.same((packed(STILL, 2, ((0, 0), (1, 0)), most=9), unpacked(STILL, (1, 1), (), most=9)),
                  ((), ((0, 0), (1, 0))))

    def test_any_value_as_a_number(self):
        for value in [value for value in ODD if type(value) is not int] + [8, -1, 10 ** 30]:
            self.fails(Refused, value, ranked, LIGHT, (1, 2), value, most=99)
        self.same(len(ranked(LIGHT, (1, 2), 7, most=99)), 3)

    def test_any_value_as_octets(self):
        self.fails(BadOctets, -1, unpacked, LIGHT, (1, 2), None, most=99)
        self.fails(BadOctets, -1, unpacked, LIGHT, (1, 2), "a", most=99)
        self.fails(BadOctets, 1, unpacked, LIGHT, (1, 2), (0, 256, -1), most=99)
        self.fails(BadOctets, 0, unpacked, LIGHT, (1, 2), [True], most=99)
        self.fails(Broken, -1, unpacked, LIGHT, (1, 2), (), most=99)
        self.fails(Broken, -1, unpacked, LIGHT, (1, 2), (0, 0), most=99)
        self.fails(Broken, -1, unpacked, STILL, (1, 2), (0,), most=99)
        self.fails(Broken, 8, unpacked, LIGHT, (1, 2), [8], most=99)
        self.fails(Broken, 512, unpacked, LIGHT, (9,), (2, 0), most=99)
        for value in [value for value in ODD if value != (0, 0)]:
            with self.assertRaises((BadOctets, Broken)):
                unpacked(LIGHT, (4, 5), value, most=99)

    def test_errors(self):
        for call in (rank_of, packed):
            self.fails(BadMachine, -1, call, None, None, None, most=9)
            for value in (None, 0, 5, True, "2", (1,)):
                self.fails(Refused, value, call, LAMP, value, None, most=9)
            self.fails(BadHistory, -1, call, LAMP, 2, NoHand(0), most=1)
            self.fails(BadHistory, 1, call, LAMP, 2, ((0, 0), (1, 2)), most=1)
        for call, more in ((ranked, (None,)), (fewest_octets, ()), (unpacked, (None,))):
            self.fails(BadMachine, 1, call, (0, ()), None, *more, most=9)
            for value in (None, 0, (), (0,) * 5, (-1,), (True,), [None], "11", ((1,),)):
                self.fails(Refused, value, call, LAMP, value, *more, most=1)

    def test_too_great(self):
        history = ((0, 0), (1, 1), (0, 1))
        self.fails(TooGreat, 1, rank_of, LAMP, 2, history, most=1)
        self.fails(TooGreat, 1, packed, LAMP, 2, history, most=1)
        self.fails(TooGreat, 1, ranked, LAMP, (2, 1), 0, most=1)
        self.fails(TooGreat, 1, fewest_octets, LAMP, (2, 1), most=1)
        self.fails(TooGreat, 1, unpacked, LAMP, (2, 1), (0,), most=1)
        self.same(rank_of(LAMP, 2, (), most=1), 0)
        for machine in MACHINES:
            # There are no more situations than normal histories with numbers up to these.
            most = sum(len(normals(machine, counts)) for counts in ((0, 0), (0, 1), (1, 0), (1, 1), (2, 0), (2, 1)))
            self.same(ranked(machine, (2, 1), 0, most=most), normals(machine, (2, 1))[0][0])

    def test_lists_are_taken_and_left(self):
        history = ((1, 0), (0, 1), (1, 1))
        self.untouched(rank_of, LAMP, 2, history, most=99)
        self.untouched(packed, LAMP, 2, history, most=99)
        self.untouched(ranked, LAMP, (1, 2), 1, most=99)
        self.untouched(fewest_octets, LAMP, (1, 2), most=99)
        self.untouched(unpacked, LAMP, (1, 2), (1,), most=99)

    def test_limits(self):
        chance = random.Random(17)
        begun = time.monotonic()
        for boards, deeds, counts in ((4, 3, (3, 2)), (4, 3, (0, 5)), (2, 2, (2, 2, 1)), (3, 3, (7,)), (4, 3, (5,))) * 5:
            machine = (0, tuple(tuple(chance.randrange(boards) for _ in range(boards)) for _ in range(deeds)))
            hands = [hand for hand, many in enumerate(counts) for _ in range(many)]
            chance.shuffle(hands)
            history = tuple((hand, chance.randrange(deeds)) for hand in hands)
            try:
                rank = rank_of(machine, len(counts), history, most=2000)
                row = ranked(machine, counts, rank, most=2000)
                self.same(row, normal_of(machine, len(counts), history))
                octets = packed(machine, len(counts), row, most=2000)
                self.assertEqual(len(octets), fewest_octets(machine, counts, most=2000))
                self.same(unpacked(machine, counts, octets, most=2000), row)
            except TooGreat as error:
                self.assertEqual(error.most, 2000)
        self.assertLess(time.monotonic() - begun, 20)
