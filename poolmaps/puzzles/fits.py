"""Fits and puzzles: which outputs some places can have together.

Outputs are integers below 100. A domain is an integer whose bits tell the outputs that are left for a place.
"""

MAX_KEPT = 20000
# The domain of a place that can have any output, also one that its menu does not have.
ANY = -1


def domain_of(outputs):
    """The domain with these outputs."""
    domain = 0
    for output in outputs:
        domain = domain | 1 << output
    return domain


def outputs_of(domain):
    """The ascending list of the outputs of a domain."""
    return [output for output in range(domain.bit_length()) if domain >> output & 1]


def is_single(domain):
    """Whether a domain that is not empty has one output alone."""
    return domain & (domain - 1) == 0


class Fit:
    """The rows of outputs that fit together, for places that are told by their positions in these rows.

    Sets of these rows are told by the bits of integers, as domains are. What is reckoned is kept, for
    the same few domains come again and again.
    """

    def __init__(self, fitting):
        self.fitting = list(fitting)
        self._whole = (1 << len(fitting)) - 1
        self._bearing = [{} for _ in fitting[0]]
        for number, row in enumerate(fitting):
            for position, output in enumerate(row):
                self._bearing[position][output] = self._bearing[position].get(output, 0) | 1 << number
        self._covers = [{} for _ in self._bearing]
        self._kept = {}

    def cover(self, position, domain):
        """The rows whose output at this position is in the domain."""
        covers = self._covers[position]
        if domain not in covers:
            if len(covers) > MAX_KEPT:
                covers.clear()
            rows = 0
            for output, bearing in self._bearing[position].items():
                if domain >> output & 1:
                    rows = rows | bearing
            covers[domain] = rows
        return covers[domain]

    def rows_within(self, domains):
        """The rows whose outputs are all in these domains, which are told position by position."""
        rows = self._whole
        for position, domain in enumerate(domains):
            rows = rows & self.cover(position, domain)
        return rows

    def remaining(self, rows):
        """The tuple of the domains of the outputs in these rows."""
        return tuple([
            domain_of([output for output, told in bearing.items() if told & rows]) for bearing in self._bearing
        ])

    def narrowed(self, domains):
        """The tuple of what is left of these domains, a tuple, in rows that fit; None if no row does."""
        if domains not in self._kept:
            if len(self._kept) > MAX_KEPT:
                self._kept.clear()
            rows = self.rows_within(domains)
            self._kept[domains] = self.remaining(rows) if rows > 0 else None
        return self._kept[domains]


class Puzzle:
    """Places with a menu of outputs each, and ties, which are pairs of a tuple of places and their fit.

    Tie groups are lists of ties that may be enough to show that nothing fits, each one alone.
    """

    def __init__(self, menus, ties, tie_groups):
        self.menus = menus
        self.ties = ties
        self.tie_groups = tie_groups
        self.full = [domain_of(menu) for menu in menus]
        self.all_ties = {tie: True for tie in range(len(ties))}
        self.ties_at = [[] for _ in menus]
        for tie, bound in enumerate(ties):
            for place in bound[0]:
                self.ties_at[place].append(tie)

    def is_dead(self, tie, domains):
        """Whether nothing fits at the tie, by the domains of all places."""
        places, fit = self.ties[tie]
        return fit.rows_within([domains[place] for place in places]) == 0

    def look_ahead(self, domains, trail, ties, within):
        """Narrows the domains, from these ties on; the tie at which nothing fits, or None.

        Only ties of the dict `within` count. The trail gets the triples of a place, its elder domain, and the
        tie that narrowed it.
        """
        queue = list(ties)
        waiting = {tie: True for tie in queue}
        at = 0
        while at < len(queue):
            tie = queue[at]
            at += 1
            waiting[tie] = False
            narrow = self.narrowed_at(tie, domains)
            if narrow is None:
                return tie
            for place, domain in narrow:
                trail.append((place, domains[place], tie))
                domains[place] = domain
                for other in self.ties_at[place]:
                    if other != tie and other in within and not waiting.get(other, False):
                        waiting[other] = True
                        queue.append(other)
        return None

    def narrowed_at(self, tie, domains):
        """The list of the pairs (place, lesser domain) for places at the tie, or None if nothing fits."""
        places, fit = self.ties[tie]
        before = tuple([domains[place] for place in places])
        behind = fit.narrowed(before)
        if behind is None:
            return None
        if behind == before:
            return []
        return [
            (place, domain) for place, elder, domain in zip(places, before, behind) if domain != elder
        ]
