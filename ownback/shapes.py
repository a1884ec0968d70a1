"""Where the letters of words machines lead: lots of states that lead to one another, and what stands in a row."""


def finished(ahead, first):
    """The states come to, each one when all that are come to from it were looked at: depth first."""
    found = []
    begun = {first: True}
    way = [(first, 0)]
    while way:
        state, at = way.pop()
        if at == len(ahead[state]):
            found.append(state)
        else:
            way.append((state, at + 1))
            behind = ahead[state][at]
            if behind not in begun:
                begun[behind] = True
                way.append((behind, 0))
    return found


def gathered(sources, state, taken):
    """Ascending this state and all that lead to it and were not taken yet; they are taken now."""
    taken[state] = True
    lot = [state]
    at = 0
    while at < len(lot):
        state = lot[at]
        for source in sources[state]:
            if source not in taken:
                taken[source] = True
                lot.append(source)
        at += 1
    return tuple(sorted(lot))


def lots_in_order(ahead, first):
    """The greatest lots of states come to of which each leads to each other one; none leads to a lot ahead of it."""
    order = finished(ahead, first)
    sources = {state: [] for state in order}
    for state in order:
        for behind in ahead[state]:
            sources[behind].append(state)
    taken = {}
    lots = []
    for state in order[::-1]:
        if state not in taken:
            lots.append(gathered(sources, state, taken))
    return lots


class Shape:
    """The states come to of a checked words machine, in lots; ahead has by state one state for each letter."""

    def __init__(self, words):
        _, first, steps = words
        self.first = first
        self.ahead = [[behind for _, behind in row] for row in steps]
        self.lots = lots_in_order(self.ahead, first)
        self.lot_of = {state: at for at, lot in enumerate(self.lots) for state in lot}
        self.turning = [self.letters_within(lot[0]) > 0 for lot in self.lots]

    def letters_within(self, state):
        """How many letters of a state lead to its own lot."""
        return len([behind for behind in self.ahead[state] if self.lot_of[behind] == self.lot_of[state]])

    def come(self):
        return tuple(sorted(self.lot_of))

    def loops(self):
        return tuple(sorted([lot for lot, turns in zip(self.lots, self.turning) if turns]))

    def most_in_a_row(self, weights):
        """The greatest sum of weights of lots that stand one behind another on a way from the first state."""
        heaviest = list(weights)
        for at, lot in enumerate(self.lots):
            for state in lot:
                for behind in self.ahead[state]:
                    to = self.lot_of[behind]
                    if to != at:
                        heaviest[to] = max(heaviest[to], heaviest[at] + weights[to])
        return max(heaviest)

    def letters_between(self):
        """By state come to, by state come to how many letters lead from the one to the other."""
        places = {state: place for place, state in enumerate(self.come())}
        rows = [[0] * len(places) for _ in places]
        for state, place in places.items():
            for behind in self.ahead[state]:
                rows[place][places[behind]] += 1
        return rows
