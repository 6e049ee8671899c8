"""Joins: outputs for a part of a puzzle, found place by place and without a search.

A table is a pair of a tuple of places and the list of the rows of outputs that they can have together. One
place after the other is taken out: the tables that have it are joined, and what the join leaves for its
other places is a new table. The tables remain small where few places part the others from one another,
and there joins find at once what a search would try again and again.
"""

from poolmaps.puzzles.fits import is_single, outputs_of

MAX_NEAR = 12
MAX_JOINED = 20000
MAX_TOTAL = 300000


def table_of_tie(puzzle, tie, domains):
    """The table of those places of a tie that have several outputs left."""
    places, fit = puzzle.ties[tie]
    kept = [position for position, place in enumerate(places) if not is_single(domains[place])]
    rows = {
        tuple([row[position] for position in kept]): True for row in fit.fitting
        if all([domains[place] >> output & 1 for place, output in zip(places, row)])
    }
    return (tuple([places[position] for position in kept]), list(rows))


def open_places(puzzle, ties, domains):
    """The ascending list of the places at these ties that have several outputs left."""
    return sorted({place for tie in ties for place in puzzle.ties[tie][0] if not is_single(domains[place])})


def tables_of_ties(puzzle, ties, domains):
    """The list of the tables of these ties, behind those of their places alone."""
    alone = [
        ((place,), [(output,) for output in outputs_of(domains[place])])
        for place in open_places(puzzle, ties, domains)
    ]
    return [*alone, *[table_of_tie(puzzle, tie, domains) for tie in ties]]


def taking_order(part, tables):
    """The order in which to take the places out, those with few places near first; None if some have too many."""
    near = {place: {} for place in part}
    for places, _ in tables:
        for place in places:
            for other in places:
                near[place][other] = True
    order = []
    while near:
        many, place = min([(len(others), each) for each, others in near.items()])
        if many > MAX_NEAR:
            return None
        around = near.pop(place)
        together = [other for other in around if other != place]
        for other in together:
            near[other].pop(place)
            for each in together:
                near[other][each] = True
        order.append(place)
    return order


def joined(one, other):
    """The join of two tables, or None if it is too great."""
    shared = [(one[0].index(place), at) for at, place in enumerate(other[0]) if place in one[0]]
    added = [at for at, place in enumerate(other[0]) if place not in one[0]]
    endings = {}
    for row in other[1]:
        endings.setdefault(tuple([row[at] for _, at in shared]), []).append(tuple([row[at] for at in added]))
    rows = []
    for row in one[1]:
        for ending in endings.get(tuple([row[at] for at, _ in shared]), []):
            rows.append((*row, *ending))
        if len(rows) > MAX_JOINED:
            return None
    return ((*one[0], *[other[0][at] for at in added]), rows)


def joined_at(place, tables):
    """The join of all these tables that have the place, which it has in front; None if it is too great."""
    mine = [table for table in tables if place in table[0]]
    whole = mine[0]
    for table in mine[1:]:
        whole = joined(whole, table)
        if whole is None:
            return None
    return whole


def without_first(table):
    """What a table leaves for all places but the first one."""
    return (table[0][1:], list({row[1:]: True for row in table[1]}))


def joins_of(puzzle, ties, domains):
    """The list of the joins at the open places of these ties, up to the first one without a row; None if too great."""
    tables = tables_of_ties(puzzle, ties, domains)
    order = taking_order(open_places(puzzle, ties, domains), tables)
    if order is None:
        return None
    joins, total = [], 0
    for place in order:
        whole = joined_at(place, tables)
        if whole is None or total > MAX_TOTAL:
            return None
        joins.append(whole)
        if not whole[1]:
            return joins
        total += len(whole[1])
        tables = [*[table for table in tables if place not in table[0]], without_first(whole)]
    return joins


def show_that_nothing_fits(joins):
    """Whether joins came to one without a row; None are no joins at all."""
    return joins is not None and len(joins) > 0 and not joins[-1][1]


def telling_joins(puzzle, ties, domains):
    """The joins at these ties; if they are too great, those of a group that show that nothing fits; or None."""
    joins = joins_of(puzzle, ties, domains)
    if joins is not None:
        return joins
    for group in puzzle.tie_groups:
        joins = joins_of(puzzle, group, domains)
        if show_that_nothing_fits(joins):
            return joins
    return None


def chosen_behind(joins):
    """A dict from the first places of these joins to outputs, by what is chosen for the places taken out later."""
    chosen = {}
    for places, rows in joins[::-1]:
        fitting = [row for row in rows if all([chosen[place] == row[at] for at, place in enumerate(places) if at > 0])]
        chosen[places[0]] = fitting[0][0]
    return chosen
