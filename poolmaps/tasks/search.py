"""The search for rules that do a task, and why there is none."""

from poolmaps.base.checks import check_many, check_number, is_number
from poolmaps.base.pools import check_pool
from poolmaps.errors import InvalidOperation, Refused
from poolmaps.known.sights import check_few_runs, is_row, is_view, views_in_runs
from poolmaps.known.words import MAX_ROUNDS, check_rounds, is_word
from poolmaps.puzzles.fits import Fit, Puzzle
from poolmaps.puzzles.growing import refuting_nodes
from poolmaps.puzzles.solver import Solver, solved
from poolmaps.puzzles.trees import MAX_NODES, ask_once, refutes
from poolmaps.tasks.rules import Rule
from poolmaps.tasks.tasks import MAX_OUTPUT, check_sizes, check_task


class Setting:
    """The views of the runs of a task as the places of a puzzle, and the runs as its ties."""

    def __init__(self, pool, task, rounds):
        seen = views_in_runs(pool, rounds, task.rows)
        self.runs = list(seen)
        self.sorted_views = sorted({view for views in seen.values() for view in views})
        self.places = {view: place for place, view in enumerate(self.sorted_views)}
        self.ties_by_run = {run: tie for tie, run in enumerate(self.runs)}
        self.known_by = {view[:2]: tuple([thread for thread, _ in view[2]]) for view in self.sorted_views}
        fits = {row: Fit(task[row]) for row in task.rows}
        self.puzzle = Puzzle(
            [task.outputs(view[0]) for view in self.sorted_views],
            [(tuple([self.places[view] for view in views]), fits[run[0]]) for run, views in seen.items()],
            [[tie for run, tie in self.ties_by_run.items() if run[0] == row] for row in task.rows],
        )

    def has_view(self, value):
        """Whether the value is a view of a run of the task."""
        return is_view(value, self.known_by) and value in self.places

    def table_of(self, outputs):
        """The dict from all views to these outputs of their places."""
        return {view: outputs[place] for view, place in self.places.items()}

    def domains_left(self, settled):
        """The domains that looking ahead leaves if these views have these outputs."""
        domains = list(self.puzzle.full)
        for view, output in settled:
            domains[self.places[view]] = 1 << output
        self.puzzle.look_ahead(domains, [], self.puzzle.all_ties, self.puzzle.all_ties)
        return domains

    def solution(self, domains):
        """The outputs of a rule that does the task and has outputs in these domains, or None."""
        return solved(self.puzzle, domains, self.no_hints())

    def no_hints(self):
        """Hints for a search that hint at nothing."""
        return [0] * len(self.places)

    def told_node(self, node):
        """A node of a refuting tree, with views and runs."""
        if node[0] == "ask":
            return ("ask", self.sorted_views[node[1]], node[2])
        return ("stop", *self.runs[node[1]])

    def plain_node(self, pool, value):
        """The node of a refuting tree that the value tells, or None."""
        if not isinstance(value, tuple) or len(value) != 3:
            return None
        if value[0] == "ask" and self.has_view(value[1]):
            return ("ask", self.places[value[1]], value[2])
        if value[0] == "stop" and is_row(value[1], pool.size) and is_word(pool, value[2]):
            return ("stop", (self.ties_by_run[value[1:]],)) if value[1:] in self.ties_by_run else None
        return None


def check_search(pool, task, rounds):
    """The errors of what searches a rule for a pool, a task and a number of rounds."""
    check_pool(pool)
    check_task(task)
    check_rounds(pool, rounds)
    check_sizes(pool, task)
    check_few_runs(pool, rounds, len(task))


def can_do(pool, task, rounds):
    """Whether some rule for so many rounds does the task."""
    check_search(pool, task, rounds)
    setting = Setting(pool, task, rounds)
    return setting.solution(setting.puzzle.full) is not None


def rule_or_none(pool, task, rounds):
    """A rule for so many rounds that does the task, with just the views of its runs, or None."""
    check_search(pool, task, rounds)
    setting = Setting(pool, task, rounds)
    outputs = setting.solution(setting.puzzle.full)
    return None if outputs is None else Rule(pool, rounds, setting.table_of(outputs))


def made_rule(pool, task, rounds):
    """A rule for so many rounds that does the task, with just the views of its runs."""
    rule = rule_or_none(pool, task, rounds)
    if rule is None:
        raise InvalidOperation("no rule for so many rounds does the task")
    return rule


def refusal_or_none(pool, task, rounds):
    """A tree of questions that shows that no rule for so many rounds does the task, or None."""
    check_search(pool, task, rounds)
    setting = Setting(pool, task, rounds)
    solver = Solver(setting.puzzle, setting.puzzle.full, setting.no_hints())
    if solver.has_solution():
        return None
    return tuple([setting.told_node(node) for node in refuting_nodes(setting.puzzle, solver.weights)])


def refusal(pool, task, rounds):
    """A tree of questions that shows that no rule for so many rounds does the task."""
    nodes = refusal_or_none(pool, task, rounds)
    if nodes is None:
        raise InvalidOperation("some rule for so many rounds does the task")
    return nodes


def is_refusal(pool, task, rounds, value):
    """Whether the value is a tree of questions that shows that no rule does the task."""
    check_search(pool, task, rounds)
    if not isinstance(value, tuple) or not 1 <= len(value) <= MAX_NODES:
        return False
    setting = Setting(pool, task, rounds)
    nodes = [setting.plain_node(pool, node) for node in value]
    return None not in nodes and refutes(setting.puzzle, nodes) and ask_once(nodes)


def least_for(pool, task, *, most=3):
    """The least number of rounds, up to `most`, in which the task can be done, or None."""
    check_pool(pool)
    check_task(task)
    check_number(most, 0, MAX_ROUNDS)
    for rounds in range(most + 1):
        if can_do(pool, task, rounds):
            return rounds
    return None


class Chooser:
    """Outputs that are chosen one after the other, as long as some rule with all of them does the task."""

    def __init__(self, pool, task, rounds):
        check_search(pool, task, rounds)
        self._pool = pool
        self._task = task
        self._rounds = rounds
        self._setting = Setting(pool, task, rounds)
        self._answer = self._setting.solution(self._setting.puzzle.full)
        if self._answer is None:
            raise InvalidOperation("no rule for so many rounds does the task")
        self.set_chosen([])

    def set_chosen(self, chosen):
        """Makes these the choices, and looks ahead what they leave."""
        self._chosen = chosen
        self._domains = self._setting.domains_left(chosen)

    @property
    def settled(self):
        """The dict of the choices."""
        return {view: output for view, output in sorted(self._chosen)}

    @property
    def open_views(self):
        """The views of runs of the task without an output."""
        chosen = self.settled
        return tuple([view for view in self._setting.sorted_views if view not in chosen])

    def is_settled(self, view):
        """Whether the view has an output already."""
        return any([view == chosen for chosen, _ in self._chosen])

    def answer_with(self, view, output):
        """The outputs of a rule that does the task with all choices and this one, or None."""
        place = self._setting.places[view]
        if self._answer[place] == output:
            return self._answer
        if self._domains[place] >> output & 1 == 0:
            return None
        domains = list(self._domains)
        domains[place] = 1 << output
        return solved(self._setting.puzzle, domains, [1 << told for told in self._answer])

    def choose(self, view, output):
        """Takes an output for a view."""
        if not self._setting.has_view(view) or self.is_settled(view):
            raise InvalidOperation("this is no view of a run of the task, or has an output")
        if not is_number(output, 0, MAX_OUTPUT) or output not in self._task.outputs(view[0]):
            raise InvalidOperation("this is no output of the thread")
        answer = self.answer_with(view, output)
        if answer is None:
            raise Refused(view)
        self._answer = answer
        self.set_chosen([*self._chosen, (view, output)])

    def options(self, view):
        """The outputs that can be chosen now, or the one that was chosen."""
        if not self._setting.has_view(view):
            raise InvalidOperation("this is no view of a run of the task")
        if self.is_settled(view):
            return (self.settled[view],)
        return tuple([
            output for output in self._task.outputs(view[0]) if self.answer_with(view, output) is not None
        ])

    def undo(self, *, many=1):
        """Takes the last choices back, and tells their views, the last one first."""
        check_many(many, len(self._chosen))
        kept = len(self._chosen) - many
        gone = tuple([view for view, _ in self._chosen[kept:][::-1]])
        self.set_chosen(self._chosen[:kept])
        return gone

    def rule(self):
        """A rule with these outputs that does the task."""
        # Not the answer at hand, which depends on choices that were taken back: equal choosers tell equal rules.
        outputs = self._setting.solution(self._domains)
        return Rule(self._pool, self._rounds, self._setting.table_of(outputs))

    def twin(self):
        """An equal chooser that goes on by itself."""
        twin = Chooser(self._pool, self._task, self._rounds)
        twin._answer = self._answer
        twin.set_chosen(self._chosen)
        return twin

    def __len__(self):
        return len(self._chosen)

    def __eq__(self, other):
        return (
            isinstance(other, Chooser) and self._pool == other._pool and self._task == other._task
            and self._rounds == other._rounds and self._chosen == other._chosen
        )

    def __str__(self):
        return f"chooser with {len(self._chosen)} of {len(self._setting.sorted_views)} views"
