"""Refuting trees: why no outputs of all places of a puzzle fit.

A tree asks for the output of a place and goes on for each output of its menu, until it stops at a tie
at which nothing fits the outputs taken on the way. Here it is a triple (node, used, size). The node is
("stop", tie) or ("ask", place, branches) with pairs of an output and a tree; `used` has the asked places
on which its stops rely, and the size is the number of its nodes.
"""

from poolmaps.base.checks import are_numbers, is_pair
from poolmaps.errors import TooMany
from poolmaps.puzzles.fits import is_single, outputs_of

MAX_NODES = 5000
MAX_TRIED = 16
MAX_LEFT_OUT = 100
MAX_LOOKS = 60
MAX_GROWN = 30000
FINE = 10 ** 9
# Which steepness and width are tried, until a tree is not too great.
WAYS_TO_GROW = ((1, 1), (4, 1), (2, 1), (3, 1), (4, 3), (2, 3))


def power(base, times):
    """The base multiplied by itself so many times."""
    result = 1
    for _ in range(times):
        result = result * base
    return result


class Grower:
    """What grows trees for one puzzle; the steeper, the more it shuns branches that remain great."""

    def __init__(self, puzzle, weights, steepness, width):
        self._puzzle = puzzle
        self._weights = weights
        self._steepness = steepness
        self._width = width
        self._grown = {}

    def tree(self):
        """A tree that refutes the whole puzzle."""
        domains, trail, ties = list(self._puzzle.full), [], self._puzzle.all_ties
        return self.tree_behind(self._puzzle.look_ahead(domains, trail, ties, ties), {}, domains, trail)

    def places_of(self, ties):
        """The ascending list of the places at these ties."""
        return sorted({place for tie in ties for place in self._puzzle.ties[tie][0]})

    def core_behind(self, trail, places, core):
        """The ascending list of the ties on the trail that narrowed these places in the end, and those of the core."""
        needed = {place: True for place in places}
        chosen = {tie: True for tie in core}
        for place, _, tie in trail[::-1]:
            if place in needed:
                chosen[tie] = True
                for other in self._puzzle.ties[tie][0]:
                    needed[other] = True
        return sorted(chosen)

    def domains_with(self, taken):
        """The domains of all places, if these places have these outputs."""
        domains = list(self._puzzle.full)
        for place, output in taken.items():
            domains[place] = 1 << output
        return domains

    def core_within(self, ties, taken):
        """The ties among these that are needed to see that these outputs lead nowhere; None if they do not show it."""
        domains, trail = self.domains_with(taken), []
        dead = self._puzzle.look_ahead(domains, trail, ties, {tie: True for tie in ties})
        if dead is None:
            return None
        return self.core_behind(trail, self._puzzle.ties[dead][0], [dead])

    def least_core(self, ties, taken):
        """Such ties of which none can be left out, if they are not too many to try."""
        core = self.core_within(ties, taken)
        for tie in list(core):
            if tie in core and len(core) <= MAX_LEFT_OUT:
                less = self.core_within([other for other in core if other != tie], taken)
                if less is not None:
                    core = less
        return core

    def is_dead(self, tie, taken):
        """Whether nothing fits at the tie with these outputs alone."""
        places, fit = self._puzzle.ties[tie]
        domains = [1 << taken[place] if place in taken else self._puzzle.full[place] for place in places]
        return fit.rows_within(domains) == 0

    def stop_at(self, tie, taken):
        """The tree that stops at a tie, which uses no more outputs than it must."""
        used = {place: taken[place] for place in self._puzzle.ties[tie][0] if place in taken}
        for place in list(used):
            less = {other: output for other, output in used.items() if other != place}
            if self.is_dead(tie, less):
                used = less
        return (("stop", tie), tuple(used), 1)

    def tree_of_core(self, ties, taken):
        """A tree, if looking ahead at these ties shows that the outputs taken lead nowhere."""
        core = self.least_core(ties, taken)
        places = self.places_of(core)
        mine = {place: taken[place] for place in places if place in taken}
        key = (tuple(core), tuple(mine.items()))
        if key not in self._grown:
            dead = [tie for tie in core if self.is_dead(tie, mine)]
            if dead:
                self._grown[key] = self.stop_at(dead[0], mine)
            else:
                self._grown[key] = self.least_asked(core, mine, [place for place in places if place not in mine])
        return self._grown[key]

    def least_asked(self, core, taken, places):
        """The least tree among those that ask for one of the best of these places."""
        best = None
        for place in self.best_in_core(core, taken, places):
            tree = self.asked(place, core, taken)
            if best is None or tree[2] < best[2]:
                best = tree
        return best

    def best_in_core(self, core, taken, places):
        """The places whose branches are least, by the sizes of the cores that remain for them."""
        step = 1 + (len(places) - 1) // MAX_TRIED
        told = []
        for place in places[::step]:
            total = 0
            for output in self._puzzle.menus[place]:
                total += power(len(self.core_within(core, {**taken, place: output})), self._steepness)
            told.append((total, place))
        width = self._width if len(self._grown) < MAX_GROWN else 1
        return [place for _, place in sorted(told)[:width]]

    def asked(self, place, ties, taken):
        """The tree that asks for a place, if these ties show that the outputs taken lead nowhere."""
        grown = []
        for output in self._puzzle.menus[place]:
            tree = self.tree_of_core(ties, {**taken, place: output})
            if place not in tree[1]:
                return tree
            grown.append((output, tree))
        return joined_tree(place, grown)

    def tree_behind(self, dead, taken, domains, trail):
        """The tree behind looking ahead at all ties, which showed a dead one or None."""
        if dead is not None:
            return self.tree_of_core(self.core_behind(trail, self._puzzle.ties[dead][0], [dead]), taken)
        place = self.best_open(domains)
        grown = []
        for output in self._puzzle.menus[place]:
            tree = self.tree_with(place, output, taken, domains, trail)
            if place not in tree[1]:
                return tree
            grown.append((output, tree))
        return joined_tree(place, grown)

    def tree_with(self, place, output, taken, domains, trail):
        """The tree for one output of a place behind the others."""
        more = {**taken, place: output}
        if domains[place] >> output & 1 == 0:
            return self.tree_of_core(self.core_behind(trail, [place], []), more)
        narrowed, longer = list(domains), list(trail)
        narrowed[place] = 1 << output
        dead = self._puzzle.look_ahead(narrowed, longer, self._puzzle.ties_at[place], self._puzzle.all_ties)
        return self.tree_behind(dead, more, narrowed, longer)

    def best_open(self, domains):
        """The place whose outputs leave the least open."""
        open_places = sorted([
            (len(outputs_of(domain)) * FINE // self._weights[place], place)
            for place, domain in enumerate(domains) if not is_single(domain)
        ])
        told = []
        looks = 0
        for _, place in open_places:
            if looks < MAX_LOOKS:
                outputs = outputs_of(domains[place])
                looks += len(outputs)
                left = [self.openness_with(place, output, domains) for output in outputs]
                told.append((len([each for each in left if each > 0]), sum(left), place))
        return min(told)[2]

    def openness_with(self, place, output, domains):
        """How much is open if the place has this output: 0 if nothing fits any more."""
        narrowed = list(domains)
        narrowed[place] = 1 << output
        if self._puzzle.look_ahead(narrowed, [], self._puzzle.ties_at[place], self._puzzle.all_ties) is not None:
            return 0
        return 1 + sum([len(outputs_of(domain)) - 1 for domain in narrowed])


def joined_tree(place, grown):
    """The tree that asks for this place, with pairs of an output and its tree."""
    used = sorted({other for _, tree in grown for other in tree[1] if other != place})
    return (("ask", place, tuple(grown)), tuple(used), 1 + sum([tree[2] for _, tree in grown]))


def nodes_of(tree):
    """The list of the nodes of a tree, in which branches tell the numbers of nodes."""
    trees = [tree]
    nodes = []
    at = 0
    while at < len(trees):
        node = trees[at][0]
        if node[0] == "ask":
            branches = []
            for output, branch in node[2]:
                branches.append((output, len(trees)))
                trees.append(branch)
            node = ("ask", node[1], tuple(branches))
        nodes.append(node)
        at += 1
    return nodes


def refuting_nodes(puzzle, weights):
    """The list of the nodes of a tree that refutes the puzzle, by the weights of places in a search that failed."""
    for steepness, width in WAYS_TO_GROW:
        tree = Grower(puzzle, weights, steepness, width).tree()
        if tree[2] <= MAX_NODES:
            return nodes_of(tree)
    raise TooMany(MAX_NODES)


def are_branches(value, menu, number, many):
    """Whether the value has a pair of each output of the menu and a number of a later one of so many nodes."""
    if not isinstance(value, tuple) or len(value) != len(menu):
        return False
    if not all([is_pair(branch) and are_numbers(branch, 0, MAX_NODES) for branch in value]):
        return False
    return tuple([branch[0] for branch in value]) == menu and all([number < branch[1] < many for branch in value])


def parents_of(puzzle, nodes):
    """A dict from each node but the first one to the triple (node, place, output) that names it, or None."""
    parents = {}
    for number, node in enumerate(nodes):
        if node[0] == "ask":
            if not are_branches(node[2], puzzle.menus[node[1]], number, len(nodes)):
                return None
            for output, target in node[2]:
                if target in parents:
                    return None
                parents[target] = (number, node[1], output)
    return parents if len(parents) == len(nodes) - 1 else None


def taken_at(parents, number, places):
    """A dict from those of these places that were asked on the way to a node to their outputs."""
    taken = {}
    while number > 0:
        number, place, output = parents[number]
        if place in places:
            taken[place] = output
    return taken


def stops_well(puzzle, parents, number, ties):
    """Whether nothing fits the outputs taken on the way to a node, at one of these ties."""
    for tie in ties:
        places, fit = puzzle.ties[tie]
        taken = taken_at(parents, number, places)
        if fit.rows_within([1 << taken[place] if place in taken else puzzle.full[place] for place in places]) == 0:
            return True
    return False


def refutes(puzzle, nodes):
    """Whether these nodes make a tree that refutes the puzzle.

    A node is ("ask", place, branches) with branches of any kind, or ("stop", ties).
    """
    parents = parents_of(puzzle, nodes)
    if parents is None:
        return False
    asked = {}
    for number, node in enumerate(nodes):
        before = 0
        if number > 0:
            front, place, _ = parents[number]
            before = asked[front] | 1 << place
        if node[0] == "ask" and before >> node[1] & 1:
            return False
        if node[0] == "stop" and not stops_well(puzzle, parents, number, node[1]):
            return False
        asked[number] = before
    return True
