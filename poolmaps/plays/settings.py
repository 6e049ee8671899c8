"""The search for plays: the sights of the host as places, the signals of the guest as their outputs."""

from poolmaps.base.checks import are_numbers, is_number, is_pair
from poolmaps.base.webs import MAX_MARK, MAX_THREADS
from poolmaps.known.sights import MAX_WORDS, known_by_sight, sight_table
from poolmaps.known.words import is_word, known_table
from poolmaps.puzzles.fits import Fit, Puzzle
from poolmaps.puzzles.growing import refuting_nodes
from poolmaps.puzzles.solver import Solver
from poolmaps.puzzles.trees import refutes


def is_signal(value):
    """Whether the value is a pair of a tuple of threads and a mark."""
    return is_pair(value) and are_numbers(value[0], 0, MAX_THREADS - 1) and is_number(value[1], 0, MAX_MARK)


def is_known_signal(value, known):
    """Whether the value is a pair of a tuple of threads, all of them known, and a mark."""
    return is_signal(value) and all([other in known for other in value[0]])


class PlaySetting:
    """Sights as places, and the words of the host as ties, at which the signals make a web of the guest."""

    def __init__(self, host, guest, rounds):
        numbers = sight_table(host, rounds)
        known_by = known_by_sight(numbers, known_table(host, rounds))
        self._host = host
        self.sights = sorted(known_by)
        self.places = {sight: place for place, sight in enumerate(self.sights)}
        self.words = list(numbers)
        self.ties_by_word = {word: tie for tie, word in enumerate(self.words)}
        self.told_signals = [sorted({web.signals[thread] for web in guest.webs}) for thread in range(guest.size)]
        codes = [{signal: code for code, signal in enumerate(told)} for told in self.told_signals]
        fit = Fit([tuple([codes[thread][signal] for thread, signal in enumerate(web.signals)]) for web in guest.webs])
        menus = [
            tuple([code for signal, code in codes[sight[0]].items() if is_known_signal(signal, known_by[sight])])
            for sight in self.sights
        ]
        ties = [(tuple([self.places[sight] for sight in enumerate(told)]), fit) for told in numbers.values()]
        self.codes = codes
        self.puzzle = Puzzle(menus, ties, [])

    def new_solver(self):
        """A search for a play."""
        return Solver(self.puzzle, self.puzzle.full, [0] * len(self.places))

    def found_maps(self):
        """The maps of a play, or None if there is none."""
        solver = self.new_solver()
        if not solver.has_solution():
            return None
        maps = [{} for _ in self.told_signals]
        for sight, place in self.places.items():
            thread, number = sight
            maps[thread][number] = self.told_signals[thread][solver.domains[place].bit_length() - 1]
        return tuple(maps)

    def told_node(self, node):
        """A node of a refuting tree, with sights, signals and words."""
        if node[0] == "stop":
            return ("stop", self.words[node[1]])
        thread, number = self.sights[node[1]]
        return ("ask", thread, number, tuple([(self.told_signals[thread][code], at) for code, at in node[2]]))

    def refusing_nodes(self):
        """The nodes of a certificate that there is no play, or None if there is one."""
        solver = self.new_solver()
        if solver.has_solution():
            return None
        return tuple([self.told_node(node) for node in refuting_nodes(self.puzzle, solver.weights)])

    def plain_branch(self, thread, value):
        """The branch of a refuting tree that a row tells, or None."""
        if not is_pair(value) or not is_signal(value[0]) or value[0] not in self.codes[thread]:
            return None
        return (self.codes[thread][value[0]], value[1])

    def plain_node(self, value):
        """The node of a refuting tree that the value tells, or None."""
        if not isinstance(value, tuple) or len(value) not in (2, 4):
            return None
        if len(value) == 2:
            plain = value[0] == "stop" and is_word(self._host, value[1]) and value[1] in self.ties_by_word
            return ("stop", (self.ties_by_word[value[1]],)) if plain else None
        if value[0] != "ask" or not are_numbers(value[1:3], 0, MAX_WORDS) or value[1:3] not in self.places:
            return None
        if not isinstance(value[3], tuple):
            return None
        branches = [self.plain_branch(value[1], row) for row in value[3]]
        return None if None in branches else ("ask", self.places[value[1:3]], tuple(branches))

    def is_refused_by(self, value):
        """Whether the nodes of the value, a tuple, show that there is no play."""
        nodes = [self.plain_node(node) for node in value]
        return None not in nodes and refutes(self.puzzle, nodes)
