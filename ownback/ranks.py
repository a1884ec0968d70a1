"""Ranks: normal histories with the same numbers by hand, numbered, and told in fewest octets."""

from ownback.antimatroid import letter_chosen
from ownback.checks import OCTETS, check_octets, is_below
from ownback.corners import Atlas
from ownback.counts import count, rows_within
from ownback.errors import Broken, Refused
from ownback.histories import check_history, standing
from ownback.machines import check_machine
from ownback.normal import normal_behind
from ownback.tables import check_counts, moved


class Ranking:
    """The normal histories with some counts. A place is (vector behind some first letters, situation there)."""

    def __init__(self, machine, counts, most):
        self.atlas = Atlas(machine, len(counts), most)
        self.counts = counts
        self.nothing = ((0,) * len(counts), 0)
        self.many = self.rows_ahead()

    def letters_at(self, place):
        """Ascending (letter, place behind it)."""
        vector, number = place
        found = []
        for hand, bound in enumerate(self.counts):
            if vector[hand] < bound:
                behind = moved(vector, hand, 1)
                found.extend([(letter, (behind, led)) for letter, led in self.atlas.steps_of(number, hand)])
        return found

    def rows_ahead(self):
        """By place how many rows of letters go on from there to all counts."""
        rows = rows_within(self.atlas, self.counts)
        many = {}
        for vector in reversed(list(rows)):
            for number in rows[vector]:
                ahead = [many[behind] for _, behind in self.letters_at((vector, number))]
                many[(vector, number)] = 1 if vector == self.counts else sum(ahead)
        return many

    def in_all(self):
        return self.many[self.nothing]

    def rank_in(self, history):
        """The rank of a normal history."""
        place = self.nothing
        rank = 0
        for letter in history:
            letters = self.letters_at(place)
            rank += sum([self.many[behind] for lesser, behind in letters if lesser < letter])
            place = dict(letters)[letter]
        return rank

    def history_at(self, rank):
        """The normal history of a rank that one of them has."""
        place = self.nothing
        history = []
        while place[0] != self.counts:
            letter, place, rank = letter_chosen(self.letters_at(place), self.many, rank)
            history.append(letter)
        return tuple(history)


def rank_of(machine, hands, history, *, most):
    machine = check_machine(machine)
    history = check_history(machine, hands, history)
    ranking = Ranking(machine, standing(hands, history), most)
    return ranking.rank_in(normal_behind(machine, hands, history))


def ranked(machine, counts, number, *, most):
    machine = check_machine(machine)
    ranking = Ranking(machine, check_counts(counts), most)
    if not is_below(number, ranking.in_all()):
        raise Refused(number)
    return ranking.history_at(number)


def octets_for(many):
    """How many octets at least tell so many things apart."""
    size, told = 0, 1
    while told < many:
        size, told = size + 1, told * OCTETS
    return size


def fewest_octets(machine, counts, *, most):
    return octets_for(count(machine, counts, most=most))


def packed(machine, hands, history, *, most):
    machine = check_machine(machine)
    history = check_history(machine, hands, history)
    ranking = Ranking(machine, standing(hands, history), most)
    rank = ranking.rank_in(normal_behind(machine, hands, history))
    octets = []
    for _ in range(octets_for(ranking.in_all())):
        octets.append(rank % OCTETS)
        rank = rank // OCTETS
    return tuple(octets[::-1])


def unpacked(machine, counts, octets, *, most):
    machine = check_machine(machine)
    ranking = Ranking(machine, check_counts(counts), most)
    octets = check_octets(octets)
    if len(octets) != octets_for(ranking.in_all()):
        raise Broken(-1)
    rank = 0
    for octet in octets:
        rank = rank * OCTETS + octet
    if rank >= ranking.in_all():
        raise Broken(rank)
    return ranking.history_at(rank)
