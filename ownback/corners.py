"""Situations of normal histories: what their corners tell of all that is to come."""

from ownback.errors import TooGreat


class Leading:
    """A map that leads lots of places, told by bits."""

    def __init__(self, moves):
        self.moves = moves
        self.known = {0: 0}

    def lot_led(self, lot):
        # Few lots come, again and again.
        if lot not in self.known:
            rest = lot & (lot - 1)
            place = (lot - rest).bit_length() - 1
            self.known[lot] = self.lot_led(rest) | 1 << self.moves[place]
        return self.known[lot]


def pairs_led(moves):
    """By pair of boards, told by one number, the pair to which a deed leads it."""
    many = len(moves)
    return [moves[pair // many] * many + moves[pair % many] for pair in range(many * many)]


def pairs_done(moves):
    """By board the pair of it and the board to which a deed leads it."""
    return [board * len(moves) + behind for board, behind in enumerate(moves)]


class Atlas:
    """The situations of normal histories of so many hands, numbered as they are come to; that of nothing is 0.

    A situation is (by lot of hands its corner boards, by hand, by lot of hands its corner pairs), all lots told by
    bits. No boards are kept for the lot of no hand, which are no part of a situation, and no pairs for a hand that is
    not open. Pairs are led by letters as boards are.
    """

    def __init__(self, machine, hands, most):
        start, maps = machine
        lots = 1 << hands
        nothing = ((0,) + (1 << start,) * (lots - 1), ((),) * hands)
        self.hands = hands
        self.most = most
        self.boards = [Leading(moves) for moves in maps]
        self.pairs = [Leading(pairs_led(moves)) for moves in maps]
        self.doing = [Leading(pairs_done(moves)) for moves in maps]
        self.done = [leading.lot_led((1 << len(maps[0])) - 1) for leading in self.doing]
        self.found = [nothing]
        self.numbers = {nothing: 0}
        self.known = {}

    def steps_of(self, number, hand):
        """Ascending (letter, situation) of a hand's letters that lead from a situation to normal histories."""
        if (number, hand) not in self.known:
            corners, asked = self.found[number]
            deeds = [deed for deed in self.unlike_deeds(corners[1 << hand]) if self.leads_on(asked, hand, deed)]
            led = [self.number_of(self.behind(corners, asked, hand, deed)) for deed in deeds]
            self.known[(number, hand)] = tuple([((hand, deed), to) for deed, to in zip(deeds, led)])
        return self.known[(number, hand)]

    def all_steps(self):
        """By situation all its steps."""
        steps = []
        while len(steps) < len(self.found):
            row = [self.steps_of(len(steps), hand) for hand in range(self.hands)]
            steps.append(tuple([step for part in row for step in part]))
        return tuple(steps)

    def number_of(self, situation):
        if situation not in self.numbers:
            if len(self.found) >= self.most:
                raise TooGreat(self.most)
            self.numbers[situation] = len(self.found)
            self.found.append(situation)
        return self.numbers[situation]

    def unlike_deeds(self, corner):
        """Of the deeds that do the same on these boards the least ones, ascending."""
        least = {}
        for deed, doing in enumerate(self.doing):
            least.setdefault(doing.lot_led(corner), deed)
        return list(least.values())

    def leads_on(self, asked, hand, deed):
        """Whether behind this letter no greater hand's last deed can be last."""
        for pairs in asked[hand + 1:]:
            if pairs and self.some_does(pairs[0] | self.pairs[deed].lot_led(pairs[1 << hand])):
                return False
        return True

    def some_does(self, pairs):
        return any([pairs | done == done for done in self.done])

    def behind(self, corners, asked, hand, deed):
        """The situation behind a letter that leads to a normal history."""
        bit = 1 << hand
        grown = grown_lots(self.boards[deed], corners, bit)
        pairs = [grown_lots(self.pairs[deed], lots, bit) for lots in asked[:hand]]
        # Hand 0 is never open: no hand is less.
        own = [self.doing[deed].lot_led(corners[lot | bit]) for lot in range(len(corners))] if hand > 0 else []
        pairs.append(tuple(own))
        # A greater hand's last deed has a lesser hand's behind it now.
        pairs.extend([()] * (self.hands - len(pairs)))
        return (0,) + grown[1:], tuple(pairs)


def grown_lots(leading, lots, bit):
    """By lot of hands what is there behind a letter of the hand with this bit."""
    return tuple([
        leading.lot_led(there) if lot & bit else there | leading.lot_led(lots[lot | bit])
        for lot, there in enumerate(lots)
    ])
