"""Refuting trees: why no outputs of all places of a puzzle fit.

A tree asks for the output of a place and goes on for each output of its menu, until it stops at a tie
at which nothing fits the outputs taken on the way. Here its nodes are told as a list: ("stop", ties), or
("ask", place, branches) with pairs of an output and the number of a later node.
"""

from poolmaps.base.checks import are_numbers, is_pair

MAX_NODES = 5000


def are_branches(value, menu, number, many):
    """Whether the value has a pair of each output of the menu and a number of a later one of so many nodes."""
    if not isinstance(value, tuple) or len(value) != len(menu):
        return False
    if not all([is_pair(branch) and are_numbers(branch, 0, MAX_NODES) for branch in value]):
        return False
    return tuple([branch[0] for branch in value]) == menu and all([number < branch[1] < many for branch in value])


def parents_of(puzzle, nodes):
    """A dict from each node but the first one to the triple (node, place, output) that names it, or None."""
    parents = {}
    for number, node in enumerate(nodes):
        if node[0] == "ask":
            if not are_branches(node[2], puzzle.menus[node[1]], number, len(nodes)):
                return None
            for output, target in node[2]:
                if target in parents:
                    return None
                parents[target] = (number, node[1], output)
    return parents if len(parents) == len(nodes) - 1 else None


def taken_at(parents, number, places):
    """A dict from those of these places that were asked on the way to a node to their outputs."""
    taken = {}
    while number > 0:
        number, place, output = parents[number]
        if place in places:
            taken[place] = output
    return taken


def stops_well(puzzle, parents, number, ties):
    """Whether nothing fits the outputs taken on the way to a node, at one of these ties."""
    for tie in ties:
        places, fit = puzzle.ties[tie]
        taken = taken_at(parents, number, places)
        if fit.rows_within([1 << taken[place] if place in taken else puzzle.full[place] for place in places]) == 0:
            return True
    return False


def refutes(puzzle, nodes):
    """Whether these nodes make a tree that refutes the puzzle.

    A node is ("ask", place, branches) with branches of any kind, or ("stop", ties).
    """
    parents = parents_of(puzzle, nodes)
    if parents is None:
        return False
    asked = {}
    for number, node in enumerate(nodes):
        before = 0
        if number > 0:
            front, place, _ = parents[number]
            before = asked[front] | 1 << place
        if node[0] == "ask" and before >> node[1] & 1:
            return False
        if node[0] == "stop" and not stops_well(puzzle, parents, number, node[1]):
            return False
        asked[number] = before
    return True
