"""Lone choices: an output for each input of each of two threads, as a puzzle whose ties are the rows."""

from poolmaps.base.checks import is_number
from poolmaps.known.sights import MAX_INPUT
from poolmaps.pairs.graphs import lengths_of_ways, outputs_at
from poolmaps.puzzles.fits import Fit, Puzzle, domain_of
from poolmaps.puzzles.growing import refuting_nodes
from poolmaps.puzzles.solver import Solver
from poolmaps.puzzles.trees import ask_once, refutes
from poolmaps.tasks.tasks import MAX_OUTPUT


def single_fit(task, row, thread):
    """The pair of this thread alone, and its outputs in right rows, each as a tuple of one."""
    return ((thread,), [(output,) for output in outputs_at(task, row, thread)])


def fits_of_row(task, row, kind, rounds):
    """What fits a row, as a list of pairs of threads and the tuples of outputs that they can have."""
    if kind == "silent" or rounds == 0:
        return [((0, 1), list(task[row]))]
    if kind == "path":
        lengths = lengths_of_ways(task, row)
        if rounds is None:
            return [((0, 1), list(lengths))]
        longest = 1
        for _ in range(rounds):
            longest = longest * 3
        return [((0, 1), [pair for pair, length in lengths.items() if length <= longest])]
    threads = {"full": (), "first": (0,), "second": (1,), "apart": (0, 1)}
    return [single_fit(task, row, thread) for thread in threads[kind]]


class LoneSetting:
    """The inputs of both threads as places; the ties of each row say which outputs fit it."""

    def __init__(self, task, kind, rounds):
        self.entries = sorted({(thread, row[thread]) for row in task.rows for thread in (0, 1)})
        self.places = {entry: place for place, entry in enumerate(self.entries)}
        self.menus = [
            tuple(sorted({
                output for each in task.rows if each[thread] == value for output in outputs_at(task, each, thread)
            }))
            for thread, value in self.entries
        ]
        self.tied_rows = []
        self.ties_by_row = {row: [] for row in task.rows}
        ties = []
        for row in task.rows:
            for threads, fitting in fits_of_row(task, row, kind, rounds):
                self.ties_by_row[row].append(len(ties))
                self.tied_rows.append(row)
                ties.append((tuple([self.places[(thread, row[thread])] for thread in threads]), Fit(fitting)))
        self.puzzle = Puzzle(self.menus, ties, [])

    def has_entry(self, thread, value):
        """Whether the value is an input of the thread that comes in some row."""
        return is_number(value, 0, MAX_INPUT) and (thread, value) in self.places

    def has_output(self, entry, value):
        """Whether a lone choice can give this output to the input of the thread."""
        return is_number(value, 0, MAX_OUTPUT) and value in self.menus[self.places[entry]]

    def new_solver(self):
        """A search for a lone choice that fits all rows."""
        return Solver(self.puzzle, self.puzzle.full, [0] * len(self.entries))

    def is_fitted(self):
        """Whether a lone choice fits all rows."""
        return self.new_solver().has_solution()

    def solution(self):
        """A dict from the pairs of a thread and an input to the outputs of a lone choice that fits, or None."""
        solver = self.new_solver()
        if not solver.has_solution():
            return None
        return {entry: solver.domains[place].bit_length() - 1 for entry, place in self.places.items()}

    def stuck_row(self, given):
        """The first row that no lone choice with these outputs fits, or None."""
        domains = list(self.puzzle.full)
        for entry, output in given.items():
            domains[self.places[entry]] = domain_of([output])
        for row, ties in self.ties_by_row.items():
            if any([self.puzzle.is_dead(tie, domains) for tie in ties]):
                return row
        return None

    def refusing_nodes(self):
        """The nodes of a refusal, or None if a lone choice fits all rows."""
        solver = self.new_solver()
        if solver.has_solution():
            return None
        told = []
        for node in refuting_nodes(self.puzzle, solver.weights):
            if node[0] == "ask":
                told.append(("ask", *self.entries[node[1]], node[2]))
            else:
                told.append(("stop", self.tied_rows[node[1]]))
        return tuple(told)

    def plain_node(self, task, value):
        """The node of a refuting tree that the value tells, or None."""
        if not isinstance(value, tuple) or len(value) not in (2, 4):
            return None
        if len(value) == 2:
            return ("stop", self.ties_by_row[value[1]]) if value[0] == "stop" and value[1] in task else None
        if value[0] != "ask" or not is_number(value[1], 0, 1) or not self.has_entry(value[1], value[2]):
            return None
        return ("ask", self.places[value[1:3]], value[3])

    def is_refused_by(self, task, value):
        """Whether the nodes of the value, a tuple, show that no lone choice fits all rows."""
        nodes = [self.plain_node(task, node) for node in value]
        return None not in nodes and refutes(self.puzzle, nodes) and ask_once(nodes)
