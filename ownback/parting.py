"""Parting: backs behind which histories that are not alike show unlike boards, and plans for several of them."""

from ownback.checks import are_numbers, is_below, is_integer, is_pair, is_sequence
from ownback.errors import Refused
from ownback.histories import as_history, check_hands, check_two, press_made, shows_one
from ownback.machines import check_machine
from ownback.tables import moved, place_in, table_behind, vectors_of


def two_tables(machine, hands, one, other):
    machine, one, other = check_two(machine, hands, one, other)
    return table_behind(machine, hands, one), table_behind(machine, hands, other)


def nearest_in(one, other):
    """The vectors of two checked tables, ascending, with the greatest sum at which boards are unlike."""
    if one[0] != other[0]:
        return ()
    apart = [vector for vector, left, right in zip(vectors_of(one[0]), one[1], other[1]) if left != right]
    greatest = max([sum(vector) for vector in apart], default=0)
    return tuple([vector for vector in apart if sum(vector) == greatest])


def nearest(machine, hands, one, other):
    one, other = two_tables(machine, hands, one, other)
    return nearest_in(one, other)


def backs_to(counts, vector):
    """Hand by hand the backs that lead from these counts to a vector of them."""
    backs = []
    for hand, many in enumerate(vector):
        backs.extend([("back", hand)] * (counts[hand] - many))
    return tuple(backs)


def parting(machine, hands, one, other):
    one, other = two_tables(machine, hands, one, other)
    if one == other:
        return None
    vectors = nearest_in(one, other)
    # Of the nearest vectors the least one has the least row of backs: more of the least hands.
    return backs_to(one[0], vectors[0]) if vectors else ()


def fewest_presses(machine, hands, one, other):
    presses = parting(machine, hands, one, other)
    return None if presses is None else len(presses)


def parted_at(machine, hands, one, other, presses):
    machine, one, other = check_two(machine, hands, one, other)
    if not is_sequence(presses):
        raise Refused(presses)
    for at, press in enumerate(presses):
        if not shows_one(machine, hands, (one, other)):
            return at
        one = press_made(machine, hands, one, press)
        other = press_made(machine, hands, other, press)
    return None if shows_one(machine, hands, (one, other)) else len(presses)


class Plans:
    """What plans can be made for histories of these tables, all with the same counts.

    Histories are told by their places, ascending; those that are left show one board, or are to be told apart by it.
    """

    def __init__(self, tables):
        self.tables = tables
        self.counts = tables[0][0]
        self.all_places = tuple(range(len(tables)))
        self.known = {}

    def are_alike(self, places):
        return all([self.tables[place] == self.tables[places[0]] for place in places])

    def shown(self, places, vector):
        """Ascending (board, places of those that show it) behind the first so many deeds of each hand."""
        at = place_in(self.counts, vector)
        boards = sorted({self.tables[place][1][at] for place in places})
        return [(board, tuple([place for place in places if self.tables[place][1][at] == board])) for board in boards]

    def best_rows(self, places, vector):
        """(how many presses at worst, rows) with the fewest presses at worst; None if there is no plan."""
        rows = []
        presses = 0
        for board, left in self.shown(places, vector):
            then = self.best_then(left, vector)
            if then is None:
                return None
            presses = max(presses, then[0])
            rows.append((board, then[1]))
        return presses, tuple(rows)

    def best_then(self, places, vector):
        if self.are_alike(places):
            return 0, ("are", places)
        if (places, vector) not in self.known:
            self.known[(places, vector)] = self.best_back(places, vector)
        return self.known[(places, vector)]

    def best_back(self, places, vector):
        best = None
        for hand, many in enumerate(vector):
            if many > 0:
                rows = self.best_rows(places, moved(vector, hand, -1))
                if rows is not None and (best is None or rows[0] + 1 < best[0]):
                    best = (rows[0] + 1, ("back", hand, rows[1]))
        return best

    def rows_hold(self, places, vector, value):
        """Whether any value is the rows of a plan."""
        shown = self.shown(places, vector)
        if not is_sequence(value) or len(value) != len(shown):
            return False
        return all([self.row_holds(left, vector, board, row) for (board, left), row in zip(shown, value)])

    def row_holds(self, places, vector, board, value):
        if not is_pair(value) or not is_integer(value[0]) or value[0] != board:
            return False
        then = value[1]
        if is_pair(then) and then[0] == "are":
            return self.are_alike(places) and are_numbers(then[1]) and tuple(then[1]) == places
        if is_sequence(then) and len(then) == 3 and then[0] == "back":
            hand = then[1]
            if is_below(hand, len(vector)) and vector[hand] > 0:
                return self.rows_hold(places, moved(vector, hand, -1), then[2])
        return False


def plans_of(machine, hands, histories):
    machine = check_machine(machine)
    check_hands(hands)
    if not is_sequence(histories) or len(histories) == 0:
        raise Refused(histories)
    rows = [as_history(history, hands, len(machine[1])) for history in histories]
    tables = [table_behind(machine, hands, history) for history in rows]
    if any([table[0] != tables[0][0] for table in tables]):
        raise Refused(histories)
    return Plans(tables)


def best_plan(machine, hands, histories):
    plans = plans_of(machine, hands, histories)
    return plans.best_rows(plans.all_places, plans.counts)


def plan_presses(machine, hands, histories):
    best = best_plan(machine, hands, histories)
    return None if best is None else best[0]


def plan(machine, hands, histories):
    best = best_plan(machine, hands, histories)
    return None if best is None else best[1]


def plan_holds(machine, hands, histories, value):
    plans = plans_of(machine, hands, histories)
    return plans.rows_hold(plans.all_places, plans.counts, value)
