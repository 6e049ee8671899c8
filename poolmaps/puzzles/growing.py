"""Growing refuting trees that are not too great.

Here a tree is a triple (node, used, size). The node is ("stop", tie) or ("ask", place, branches) with pairs
of an output and a tree; `used` has the asked places on which its stops rely, and the size is the number of
its nodes. A place that no stop behind it relies on need not be asked.
"""

from poolmaps.errors import TooMany
from poolmaps.puzzles.fits import ANY, is_single, outputs_of
from poolmaps.puzzles.trees import MAX_NODES

MAX_TRIED = 16
MAX_NEAR = 6
BRANCH = 10
MAX_LEFT_OUT = 100
MAX_OPEN_LOOKS = 60
MAX_LOOKS = 100000
# With more places growing takes long, and a small tree is not to be hoped for.
MAX_SURE = 80
FINE = 10 ** 9
# Stands for a tree that would be too great. It uses no output, so that no place in front of it is asked.
GIVEN_UP = (("stop", 0), (), 1000000)
# If the least one of so many first trees has more nodes than this, other ways hardly make it small enough.
FIRST_WAYS = 3
MAX_FIRST = 40000
# Which steepness, width and thrift are tried, until a tree is not too great; width 0 is for a near grower.
WAYS_TO_GROW = (
    (1, 1, 1), (1, 1, 0), (4, 1, 1), (1, 0, 1), (3, 1, 0), (1, 0, 4), (1, 0, 0), (4, 3, 1), (2, 3, 1), (2, 3, 0),
)


def power(base, times):
    """The base multiplied by itself so many times."""
    result = 1
    for _ in range(times):
        result = result * base
    return result


class Grower:
    """What grows trees for one puzzle, from the fewest ties that show that outputs lead nowhere.

    The steeper it is, the more it shuns branches that remain great. As many places as it is wide are tried
    in earnest. With thrift it shuns places with many outputs that do not stop at once.
    """

    def __init__(self, puzzle, weights, steepness, width, thrift):
        self._puzzle = puzzle
        self._weights = weights
        self._steepness = steepness
        self._width = width
        self._thrift = thrift
        self._grown = {}
        self._looks_left = MAX_LOOKS if len(puzzle.menus) <= MAX_SURE else MAX_LOOKS // 10

    def tree(self):
        """A tree that refutes the whole puzzle."""
        domains, trail, ties = list(self._puzzle.full), [], self._puzzle.all_ties
        return self.tree_behind(self._puzzle.look_ahead(domains, trail, ties, ties), {}, domains, trail)

    def places_of(self, ties):
        """The ascending list of the places at these ties."""
        return sorted({place for tie in ties for place in self._puzzle.ties[tie][0]})

    def domains_with(self, taken):
        """The domains of all places, if these places have these outputs."""
        domains = list(self._puzzle.full)
        for place, output in taken.items():
            domains[place] = 1 << output
        return domains

    def left_at_once(self, taken):
        """The domains that are left if each tie by itself leaves out what does not fit these outputs."""
        domains = [ANY] * len(self._puzzle.full)
        for place, output in taken.items():
            domains[place] = 1 << output
        left = list(self._puzzle.full)
        for tie in self._puzzle.all_ties:
            for place, domain in self._puzzle.narrowed_at(tie, domains):
                left[place] = left[place] & domain
        return left

    def core_behind(self, trail, places, core):
        """The ascending list of the ties on the trail that narrowed these places in the end, and those of the core."""
        needed = {place: True for place in places}
        chosen = {tie: True for tie in core}
        for place, _, tie in trail[::-1]:
            if place in needed:
                chosen[tie] = True
                for other in self._puzzle.ties[tie][0]:
                    needed[other] = True
        return sorted(chosen)

    def core_within(self, ties, taken):
        """The ties among these that are needed to see that these outputs lead nowhere; None if they do not show it."""
        self._looks_left -= 1
        domains, trail = self.domains_with(taken), []
        dead = self._puzzle.look_ahead(domains, trail, ties, {tie: True for tie in ties})
        if dead is None:
            return None
        return self.core_behind(trail, self._puzzle.ties[dead][0], [dead])

    def least_core(self, ties, taken):
        """Such ties of which none can be left out, if they are not too many to try."""
        core = self.core_within(ties, taken)
        for tie in list(core):
            if tie in core and len(core) <= MAX_LEFT_OUT:
                less = self.core_within([other for other in core if other != tie], taken)
                if less is not None:
                    core = less
        return core

    def is_dead(self, tie, taken):
        """Whether nothing fits at the tie with these outputs alone."""
        places, fit = self._puzzle.ties[tie]
        domains = [1 << taken[place] if place in taken else ANY for place in places]
        return fit.rows_within(domains) == 0

    def stop_at(self, place, taken):
        """The tree that stops at a tie at this place, and uses no more outputs than it must; None if there is none."""
        for tie in self._puzzle.ties_at[place]:
            if self.is_dead(tie, taken):
                used = {other: taken[other] for other in self._puzzle.ties[tie][0] if other in taken}
                for each in list(used):
                    less = {other: output for other, output in used.items() if other != each}
                    if self.is_dead(tie, less):
                        used = less
                return (("stop", tie), tuple(used), 1)
        return None

    def tree_of_core(self, ties, taken):
        """A tree, if looking ahead at these ties shows that the outputs taken lead nowhere, but none does at once."""
        if self._looks_left < 0:
            return GIVEN_UP
        core = self.least_core(ties, taken)
        places = self.places_of(core)
        mine = {place: taken[place] for place in places if place in taken}
        key = (tuple(core), tuple(mine.items()))
        if key not in self._grown:
            trees = [self.asked(place, core, mine) for place in self.best_in_core(core, mine, places)]
            least = min([tree[2] for tree in trees])
            self._grown[key] = [tree for tree in trees if tree[2] == least][0]
        return self._grown[key]

    def best_in_core(self, core, taken, places):
        """The places whose branches are least, by the sizes of the cores that remain for them."""
        left = self.left_at_once(taken)
        if 0 in left:
            return [left.index(0)]
        others = [place for place in places if place not in taken]
        told = []
        for place in others[::1 + (len(others) - 1) // MAX_TRIED]:
            cores = [self.core_within(core, {**taken, place: output}) for output in outputs_of(left[place])]
            told.append((sum([power(len(each), self._steepness) for each in cores]), place))
        return [place for _, place in sorted(told)[:self._width]]

    def asked(self, place, ties, taken):
        """The tree that asks for a place, if these ties show that the outputs taken lead nowhere."""
        grown = []
        for output in self._puzzle.menus[place]:
            more = {**taken, place: output}
            tree = self.stop_at(place, more)
            if tree is None:
                tree = self.tree_of_core(ties, more)
            if place not in tree[1]:
                return tree
            grown.append((output, tree))
        return joined_tree(place, grown)

    def tree_behind(self, dead, taken, domains, trail):
        """The tree behind looking ahead at all ties, which showed a dead one or None."""
        if dead is not None:
            return self.tree_of_core(self.core_behind(trail, self._puzzle.ties[dead][0], [dead]), taken)
        if self._looks_left < 0:
            return GIVEN_UP
        place = self.best_open(domains, self.left_at_once(taken))
        grown = []
        for output in self._puzzle.menus[place]:
            tree = self.tree_with(place, output, taken, domains, trail)
            if place not in tree[1]:
                return tree
            grown.append((output, tree))
        return joined_tree(place, grown)

    def tree_with(self, place, output, taken, domains, trail):
        """The tree for one output of a place behind the others."""
        more = {**taken, place: output}
        stop = self.stop_at(place, more)
        if stop is not None:
            return stop
        if domains[place] >> output & 1 == 0:
            return self.tree_of_core(self.core_behind(trail, [place], []), more)
        narrowed, longer = list(domains), list(trail)
        narrowed[place] = 1 << output
        dead = self._puzzle.look_ahead(narrowed, longer, self._puzzle.ties_at[place], self._puzzle.all_ties)
        return self.tree_behind(dead, more, narrowed, longer)

    def best_open(self, domains, left):
        """The place whose outputs leave the least open, by what looking ahead leaves, and what is left at once."""
        open_places = sorted([
            (len(outputs_of(domain)) * FINE // self._weights[place], place)
            for place, domain in enumerate(domains) if not is_single(domain)
        ])
        told = []
        looks = 0
        for _, place in open_places:
            if looks < MAX_OPEN_LOOKS:
                open_ahead = [self.openness_with(place, output, domains) for output in outputs_of(domains[place])]
                looks += len(open_ahead)
                many = 2 * len([each for each in open_ahead if each > 0])
                told.append((many + self._thrift * len(outputs_of(left[place])), sum(open_ahead), place))
        return min(told)[2]

    def openness_with(self, place, output, domains):
        """How much is open if the place has this output: 0 if nothing fits any more."""
        self._looks_left -= 1
        narrowed = list(domains)
        narrowed[place] = 1 << output
        if self._puzzle.look_ahead(narrowed, [], self._puzzle.ties_at[place], self._puzzle.all_ties) is not None:
            return 0
        return 1 + sum([len(outputs_of(domain)) - 1 for domain in narrowed])


class NearGrower(Grower):
    """What grows trees by all outputs taken: it asks where few outputs are left at once.

    It is better than the other one where places have many outputs, and worse where long ways of ties count.
    """

    def tree_of_core(self, ties, taken):
        """A tree, if looking ahead at these ties shows that the outputs taken lead nowhere, but none does at once."""
        if self._looks_left < 0:
            return GIVEN_UP
        core = self.core_within(self._puzzle.all_ties, taken)
        return self.asked(self.best_near(self.places_of(core), taken), core, taken)

    def best_near(self, places, taken):
        """The place whose branches are fewest and have the least cores, among these ones and those with few outputs."""
        left = self.left_at_once(taken)
        told = sorted([
            (len(outputs_of(domain)), place not in places, place)
            for place, domain in enumerate(left) if place not in taken
        ])
        if told[0][0] == 0:
            return told[0][2]
        in_core = [each for each in told if not each[1]]
        totals = []
        for _, _, place in [*told[:MAX_NEAR], *in_core[:MAX_TRIED]]:
            ahead = [{**taken, place: output} for output in outputs_of(left[place])]
            totals.append((sum([BRANCH + len(self.core_within(self._puzzle.all_ties, more)) for more in ahead]), place))
        return min(totals)[1]


def new_grower(puzzle, weights, steepness, width, thrift):
    """The grower for one of the ways to grow."""
    if width == 0:
        return NearGrower(puzzle, weights, steepness, width, thrift)
    return Grower(puzzle, weights, steepness, width, thrift)


def joined_tree(place, grown):
    """The tree that asks for this place, with pairs of an output and its tree."""
    used = sorted({other for _, tree in grown for other in tree[1] if other != place})
    return (("ask", place, tuple(grown)), tuple(used), 1 + sum([tree[2] for _, tree in grown]))


def nodes_of(tree):
    """The list of the nodes of a tree, in which branches tell the numbers of nodes."""
    trees = [tree]
    nodes = []
    at = 0
    while at < len(trees):
        node = trees[at][0]
        if node[0] == "ask":
            branches = []
            for output, branch in node[2]:
                branches.append((output, len(trees)))
                trees.append(branch)
            node = ("ask", node[1], tuple(branches))
        nodes.append(node)
        at += 1
    return nodes


def refuting_nodes(puzzle, weights):
    """The list of the nodes of a tree that refutes the puzzle, by the weights of places in a search that failed."""
    sizes = []
    for steepness, width, thrift in WAYS_TO_GROW:
        tree = new_grower(puzzle, weights, steepness, width, thrift).tree()
        sizes.append(tree[2])
        if tree[2] <= MAX_NODES:
            return nodes_of(tree)
        if len(sizes) == FIRST_WAYS and min(sizes) > MAX_FIRST:
            raise TooMany(MAX_NODES)
    raise TooMany(MAX_NODES)
