"""The search for outputs of all places of a puzzle.

Whenever an output is given to a place, the outputs that fit nowhere any more are left out of the domains
of the other places. Each decision has a level. For each domain it is kept of which levels it comes, so
that a conflict leads back to the last decision that has to do with it, and not to others in between.
"""

from heapq import heappop, heappush

from poolmaps.known.chains import classes_of
from poolmaps.puzzles.fits import is_single, outputs_of
from poolmaps.puzzles.joins import chosen_behind, show_that_nothing_fits, telling_joins

FINE = 10 ** 9
PATIENCE = 100
JOINING = 800


class Solver:
    """One search. Sets of levels are told by the bits of integers."""

    def __init__(self, puzzle, domains, hints):
        self._puzzle = puzzle
        self.domains = list(domains)
        self._hints = hints
        self._causes = [0] * len(self.domains)
        self._trail = []
        self._decisions = []
        self._queue = []
        self.weights = [1 + len(ties) for ties in puzzle.ties_at]
        self._lengths = {}

    def has_solution(self):
        """Whether there is a solution; if so, each domain has one output behind this call."""
        if not all(self.domains) or self.conflict_from(self._puzzle.all_ties) is not None:
            return False
        for part in self.open_parts():
            for place in part:
                self.line_up(place)
            if not self.has_solved_part(part):
                return False
        return True

    def open_parts(self):
        """The groups of places without a single output that ties join, the smallest ones first."""
        labels = {
            place: [(tie,) for tie in ties]
            for place, ties in enumerate(self._puzzle.ties_at) if not is_single(self.domains[place])
        }
        return [part for _, part in sorted([(len(each), each) for each in classes_of(labels)])]

    def has_solved_part(self, part):
        """Whether the places of the part, which are lined up, can all get an output.

        Behind ever more conflicts all decisions are taken back: what was learned of the weights of places
        can lead to a better first decision. If there are very many, joins are tried.
        """
        first = len(self._decisions)
        patience, conflicts = PATIENCE, 0
        place = self.next_place()
        while place is not None:
            self.decide(place)
            conflict = self.conflict_from(self._puzzle.ties_at[place])
            while conflict is not None:
                if conflict == 0:
                    return False
                conflicts += 1
                conflict = self.conflict_behind(conflict)
            if conflicts > patience and len(self._decisions) > first:
                patience, conflicts = 2 * patience, 0
                self.go_back(first)
                told = self.told_by_joins(part) if patience == JOINING else None
                if told is not None:
                    return told
            place = self.next_place()
        return True

    def told_by_joins(self, part):
        """Whether the open places of the part can all get an output, which they get then; None if joins do not tell."""
        ties = sorted({tie for place in part for tie in self._puzzle.ties_at[place]})
        joins = telling_joins(self._puzzle, ties, self.domains)
        if joins is None:
            return None
        if show_that_nothing_fits(joins):
            return False
        for place, output in chosen_behind(joins).items():
            self.reduce(place, 1 << output, 0)
        return True

    def rank(self, place):
        """How urgent a decision is: the less outputs and the more conflicts so far, the less is the rank."""
        domain = self.domains[place]
        if domain not in self._lengths:
            self._lengths[domain] = len(outputs_of(domain))
        return self._lengths[domain] * FINE // self.weights[place]

    def line_up(self, place):
        """Puts a place into the queue, unless it has a single output."""
        if not is_single(self.domains[place]):
            heappush(self._queue, (self.rank(place), place))

    def next_place(self):
        """The place that is most urgent, or None. A place can stand in the queue with an elder rank."""
        while self._queue:
            rank, place = heappop(self._queue)
            if not is_single(self.domains[place]):
                if rank == self.rank(place):
                    return place
                self.line_up(place)
        return None

    def reduce(self, place, domain, cause):
        """Gives a place a lesser domain, which comes of these levels."""
        self._trail.append((place, self.domains[place], self._causes[place]))
        self.domains[place] = domain
        self._causes[place] = cause

    def decide(self, place):
        """Gives a place an output, the one that is hinted at if it is left."""
        level = len(self._decisions)
        domain = self.domains[place]
        chosen = domain & self._hints[place]
        if chosen == 0:
            chosen = domain & -domain
        self._decisions.append((place, chosen, len(self._trail)))
        self.reduce(place, chosen, 1 << level)

    def go_back(self, level):
        """Takes back all decisions from this level on."""
        kept = self._decisions[level][2]
        for place, domain, cause in self._trail[kept:][::-1]:
            self.domains[place] = domain
            self._causes[place] = cause
            self.line_up(place)
        self._trail = self._trail[:kept]
        self._decisions = self._decisions[:level]

    def conflict_behind(self, conflict):
        """The next conflict if the last decision of this one is taken back and its output left out, or None."""
        level = conflict.bit_length() - 1
        place, chosen, _ = self._decisions[level]
        self.go_back(level)
        self.reduce(place, self.domains[place] ^ chosen, self._causes[place] | conflict ^ 1 << level)
        if self.domains[place] == 0:
            return self._causes[place]
        self.line_up(place)
        return self.conflict_from(self._puzzle.ties_at[place])

    def causes_at(self, tie):
        """The levels of which the domains at the tie come."""
        causes = 0
        for place in self._puzzle.ties[tie][0]:
            causes = causes | self._causes[place]
        return causes

    def conflict_from(self, ties):
        """Looks ahead from these ties; the levels of a conflict, or None if there is none."""
        news = []
        dead = self._puzzle.look_ahead(self.domains, news, ties, self._puzzle.all_ties)
        for place, elder, tie in news:
            self._trail.append((place, elder, self._causes[place]))
            self._causes[place] = self.causes_at(tie)
            self.line_up(place)
        if dead is None:
            return None
        for place in self._puzzle.ties[dead][0]:
            self.weights[place] += 1
        return self.causes_at(dead)


def solved(puzzle, domains, hints):
    """The list of outputs of a solution with outputs in these domains, or None if there is none."""
    solver = Solver(puzzle, domains, hints)
    if not solver.has_solution():
        return None
    return [domain.bit_length() - 1 for domain in solver.domains]
