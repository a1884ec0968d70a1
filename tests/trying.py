"""What several tests need: odd values, small machines, and all there is of small things."""

import itertools
import random

from ownback.errors import BadOctets, NoHand, OwnError, Refused, TooGreat


def nested(depth):
    value = 0
    for _ in range(depth):
        value = [value]
    return value


ODD = (
    None, True, False, "", "0", "deed", "back", -1, -7, 10 ** 30, -(10 ** 30), (), [], (()), [[]], ((),), (None,),
    [True], [False, False], ["deed"], ("back",), ("back", None), ("back", True), ("back", -1), ("back", "0"),
    ("deed", 0), ("deed", True, 0), ("deed", 0, False), ("deed", 0, -1), ("deed", 0, 0, 0), ("back", 0, 0),
    (0, 0), (1, 0, 0), [[0], [0]], (0, ()), (0, 0, 0), (0, [0]), (0, [[]]), (0, [[0], []]), (0, ((0,), None)),
    nested(50), tuple(nested(49)), OwnError(), Refused(3), NoHand("x"), TooGreat(None), BadOctets(-1),
    [OwnError()], ((), Refused(())), "aa", ("a", "b"),
)

LAMP = (0, ((1, 0), (1, 1)))
SMALL = (
    (0, ((0,),)),
    (0, ((1, 0),)),
    LAMP,
    (0, ((1, 0), (0, 0))),
    (1, ((1, 0), (0, 1))),
    (0, ((0, 0), (1, 1))),
    (0, ((1, 2, 2), (2, 2, 0))),
    (0, ((0, 0, 0), (1, 2, 1))),
    (1, ((0, 0, 2, 3), (1, 2, 0, 0))),
    (2, ((0, 0, 1), (1, 0, 2), (1, 0, 2))),
)


def random_machines(many, boards=4, deeds=3, seed=1):
    chance = random.Random(seed)
    machines = []
    for _ in range(many):
        size = chance.randint(1, boards)
        maps = [[chance.randrange(size) for _ in range(size)] for _ in range(chance.randint(1, deeds))]
        machines.append((chance.randrange(size), tuple(tuple(moves) for moves in maps)))
    return machines


def as_lists(value):
    return [as_lists(item) for item in value] if isinstance(value, tuple) else value


def all_rows(items, most):
    """All rows of at most so many items, the shortest first, then the least."""
    for length in range(most + 1):
        yield from itertools.product(items, repeat=length)


def presses_of(machine, hands):
    deeds = [("deed", hand, deed) for hand in range(hands) for deed in range(len(machine[1]))]
    return deeds + [("back", hand) for hand in range(hands)]


def histories_with(machine, counts):
    """All histories with these counts, ascending."""
    hands = [hand for hand, many in enumerate(counts) for _ in range(many)]
    orders = sorted(set(itertools.permutations(hands)))
    deeds = list(itertools.product(range(len(machine[1])), repeat=len(hands)))
    return sorted(tuple(zip(order, row)) for order in orders for row in deeds)


def lead(machine, board, deeds):
    for deed in deeds:
        board = machine[1][deed][board]
    return board


def board_of(machine, history):
    return lead(machine, machine[0], [deed for _, deed in history])


def counts_in(hands, history):
    return tuple(sum(letter[0] == hand for letter in history) for hand in range(hands))


def behind_press(history, press):
    """The history behind a press, None if it cannot be made."""
    if press[0] == "deed":
        return history + (press[1:],)
    places = [at for at, letter in enumerate(history) if letter[0] == press[1]]
    return history[:places[-1]] + history[places[-1] + 1:] if places else None


def first_deeds(history, vector):
    left, begun = list(vector), []
    for hand, deed in history:
        if left[hand] > 0:
            left[hand] -= 1
            begun.append((hand, deed))
    return tuple(begun)


def tried_table(machine, hands, history):
    """The table by its own words: each beginning played from the start on."""
    counts = tuple(sum(1 for letter in history if letter[0] == hand) for hand in range(hands))
    vectors = itertools.product(*[range(many + 1) for many in counts])
    begun = [first_deeds(history, vector) for vector in vectors]
    return counts, tuple(lead(machine, machine[0], [deed for _, deed in part]) for part in begun)


class Trying:
    """Mixed into test cases."""

    def same(self, got, expected):
        """Equal, and of the same kinds throughout: tuples, integers and bools are told apart."""
        self.assertEqual(got, expected)
        self.assertEqual(repr(got), repr(expected))

    def fails(self, kind, told, call, *given, **named):
        """The call raises an error of just this class, with what is told in its one attribute."""
        with self.assertRaises(kind) as caught:
            call(*given, **named)
        self.assertIs(caught.exception.__class__, kind)
        kept = list(vars(caught.exception).values())
        self.assertEqual(len(kept), 1)
        if kept[0] is not told:
            self.same(kept[0], told)

    def untouched(self, call, *given, **named):
        """Given lists for all tuples: the same answer as for tuples, and no list is changed."""
        lists = [as_lists(value) for value in given]
        before = repr(lists)
        self.same(call(*lists, **named), call(*given, **named))
        self.assertEqual(repr(lists), before)


def as_dict(table):
    """By vector the board."""
    counts, entries = table
    return dict(zip(itertools.product(*[range(many + 1) for many in counts]), entries))


def by_table(machine, counts):
    """All histories with these counts, those of one table together."""
    found = {}
    for history in histories_with(machine, counts):
        found.setdefault(tried_table(machine, len(counts), history), []).append(history)
    return found


def all_tables(machine, counts):
    """All that has the form of a table with these counts."""
    size = 1
    for many in counts:
        size *= many + 1
    return [(counts, entries) for entries in itertools.product(range(len(machine[1][0])), repeat=size)]


def tables_to_try():
    """Machines with all tables of some counts, told or not, and some greater ones that are told, most of them."""
    found = []
    for machine, counts in ((SMALL[1], (1, 1)), (LAMP, (1, 1)), (LAMP, (2, 1)), (LAMP, (3,)), (SMALL[4], (2, 1)),
                            (SMALL[6], (1, 1)), (SMALL[7], (2,)), (SMALL[9], (1, 1)), (SMALL[3], (1, 1, 1)),
                            (SMALL[5], (1, 0, 1, 0)), (SMALL[6], (0, 0)), (SMALL[5], (0, 2))):
        found += [(machine, table) for table in all_tables(machine, counts)]
    chance = random.Random(8)
    for machine in SMALL + tuple(random_machines(12, 4, 2, seed=21)):
        for counts in ((2, 2), (1, 2, 1), (3, 1), (1, 1, 1, 1)):
            for _ in range(4):
                hands = [hand for hand, many in enumerate(counts) for _ in range(many)]
                chance.shuffle(hands)
                history = [(hand, chance.randrange(len(machine[1]))) for hand in hands]
                entries = list(tried_table(machine, len(counts), history)[1])
                found.append((machine, (counts, tuple(entries))))
                entries[chance.randrange(len(entries))] = 0
                found.append((machine, (counts, tuple(entries))))
    return found


def tried_last(machine, table, counts, hand):
    """By its own words: the deeds by which the hand's last one can be last among the beginnings up to counts."""
    entries = as_dict(table)
    found = []
    for deed, moves in enumerate(machine[1]):
        if counts[hand] > 0 and all(moves[entries[less(vector, hand)]] == board for vector, board in entries.items()
                                    if within(vector, counts) and vector[hand] == counts[hand]):
            found.append(deed)
    return tuple(found)


def less(vector, hand):
    return tuple(many - (place == hand) for place, many in enumerate(vector))


def within(vector, counts):
    return all(one <= other for one, other in zip(vector, counts))


def greatest_table(counts, machine, seed=0):
    """A table of some history with these counts."""
    chance = random.Random(seed)
    hands = [hand for hand, many in enumerate(counts) for _ in range(many)]
    chance.shuffle(hands)
    entries = {(0,) * len(counts): machine[0]}
    done = [0] * len(counts)
    for hand in hands:
        deed = chance.randrange(len(machine[1]))
        done[hand] += 1
        for vector in itertools.product(*[range(many + 1) for many in done]):
            if vector[hand] == done[hand]:
                entries[vector] = machine[1][deed][entries[less(vector, hand)]]
    return tuple(counts), tuple(entries[vector] for vector in sorted(entries))
