"""Fits and puzzles: which outputs some places can have together.

Outputs are integers below 100. A domain is an integer whose bits tell the outputs that are left for a place.
"""

MAX_KEPT = 20000


def domain_of(outputs):
    """The domain with these outputs."""
    domain = 0
    for output in outputs:
        domain = domain | 1 << output
    return domain


def outputs_of(domain):
    """The ascending list of the outputs of a domain."""
    return [output for output in range(domain.bit_length()) if domain >> output & 1]


def is_single(domain):
    """Whether a domain that is not empty has one output alone."""
    return domain & (domain - 1) == 0


class Fit:
    """The rows of outputs that fit together, for places that are told by their positions in these rows.

    Sets of these rows are told by the bits of integers, as domains are. What is reckoned is kept, for
    the same few domains come again and again.
    """

    def __init__(self, fitting):
        self._whole = (1 << len(fitting)) - 1
        self._bearing = [{} for _ in fitting[0]]
        for number, row in enumerate(fitting):
            for position, output in enumerate(row):
                self._bearing[position][output] = self._bearing[position].get(output, 0) | 1 << number
        self._covers = [{} for _ in self._bearing]
        self._remains = [{} for _ in self._bearing]

    def cover(self, position, domain):
        """The rows whose output at this position is in the domain."""
        kept = self._covers[position]
        if domain not in kept:
            if len(kept) > MAX_KEPT:
                kept.clear()
            rows = 0
            for output, bearing in self._bearing[position].items():
                if domain >> output & 1:
                    rows = rows | bearing
            kept[domain] = rows
        return kept[domain]

    def remaining(self, position, rows):
        """The domain of the outputs at this position in these rows."""
        kept = self._remains[position]
        if rows not in kept:
            if len(kept) > MAX_KEPT:
                kept.clear()
            kept[rows] = domain_of([
                output for output, bearing in self._bearing[position].items() if bearing & rows
            ])
        return kept[rows]

    def rows_within(self, domains):
        """The rows whose outputs are all in these domains, which are told position by position."""
        rows = self._whole
        for position, domain in enumerate(domains):
            rows = rows & self.cover(position, domain)
        return rows


class Puzzle:
    """Places with a menu of outputs each, and ties, which are pairs of a tuple of places and their fit."""

    def __init__(self, menus, ties):
        self.menus = menus
        self.ties = ties
        self.full = [domain_of(menu) for menu in menus]
        self.ties_at = [[] for _ in menus]
        for tie, bound in enumerate(ties):
            for place in bound[0]:
                self.ties_at[place].append(tie)

    def rows_left(self, tie, domains):
        """The rows that fit at a tie, by the domains of all places."""
        places, fit = self.ties[tie]
        return fit.rows_within([domains[place] for place in places])

    def narrowed(self, tie, domains, rows):
        """The list of the pairs (place, lesser domain) for the places at the tie that have less in these rows."""
        places, fit = self.ties[tie]
        narrow = [(place, fit.remaining(position, rows)) for position, place in enumerate(places)]
        return [(place, domain) for place, domain in narrow if domain != domains[place]]
