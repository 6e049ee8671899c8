"""Refuting trees: why no outputs of all places of a puzzle fit.

A tree asks for the output of a place and goes on for each output of its menu, until it stops at a tie
at which nothing fits the outputs taken on the way. Here its nodes are told as a list: ("stop", ties), or
("ask", place, branches) with pairs of an output and the number of a later node.
"""

from poolmaps.base.checks import are_numbers, is_pair
from poolmaps.puzzles.fits import ANY

MAX_NODES = 5000


def are_branches(value, menu, number, many):
    """Whether the value has a pair of each output of the menu and a number of a later one of so many nodes."""
    if not isinstance(value, tuple) or len(value) != len(menu):
        return False
    if not all([is_pair(branch) and are_numbers(branch, 0, MAX_NODES) for branch in value]):
        return False
    return tuple([branch[0] for branch in value]) == menu and all([number < branch[1] < many for branch in value])


def parents_of(puzzle, nodes):
    """A dict from each node but the first one to the triple (node, place, output) that names it, or None."""
    parents = {}
    for number, node in enumerate(nodes):
        if node[0] == "ask":
            if not are_branches(node[2], puzzle.menus[node[1]], number, len(nodes)):
                return None
            for output, target in node[2]:
                if target in parents:
                    return None
                parents[target] = (number, node[1], output)
    return parents if len(parents) == len(nodes) - 1 else None


def taken_at(parents, number, places):
    """A dict from those of these places that were asked on the way to a node to the domains of what they have."""
    taken = {}
    while number > 0:
        number, place, output = parents[number]
        if place in places:
            # A place that was asked twice can have both answers at once only if they are the same.
            taken[place] = taken.get(place, ANY) & 1 << output
    return taken


def stops_well(puzzle, parents, number, ties):
    """Whether nothing fits the outputs taken on the way to a node, at one of these ties."""
    for tie in ties:
        places, fit = puzzle.ties[tie]
        taken = taken_at(parents, number, places)
        if fit.rows_within([taken.get(place, ANY) for place in places]) == 0:
            return True
    return False


def refutes(puzzle, nodes):
    """Whether these nodes make a tree that refutes the puzzle.

    A node is ("ask", place, branches) with branches of any kind, or ("stop", ties).
    """
    parents = parents_of(puzzle, nodes)
    if parents is None:
        return False
    return all([
        stops_well(puzzle, parents, number, node[1]) for number, node in enumerate(nodes) if node[0] == "stop"
    ])


def ask_once(nodes):
    """Whether no place is asked twice on a way, for the nodes of a tree that refutes a puzzle."""
    asked = {0: 0}
    for number, node in enumerate(nodes):
        if node[0] == "ask":
            if asked[number] >> node[1] & 1:
                return False
            for _, target in node[2]:
                asked[target] = asked[number] | 1 << node[1]
    return True
