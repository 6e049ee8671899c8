"""Tasks of two threads in some number of rounds, or in none, however great."""

from poolmaps.base.checks import check_many, check_number, is_number
from poolmaps.base.pools import Pool
from poolmaps.errors import InvalidNumber, InvalidOperation, InvalidPool
from poolmaps.known.chains import bearers_of, classes_of, reach
from poolmaps.known.sights import check_few_runs, views_in_runs
from poolmaps.known.words import MAX_ROUNDS
from poolmaps.pairs.graphs import check_pair_task, is_right_row, is_way, shortest_way
from poolmaps.pairs.lone import LoneSetting
from poolmaps.puzzles.trees import MAX_NODES
from poolmaps.tasks.rules import Rule
from poolmaps.tasks.tasks import MAX_OUTPUT

# The heard threads of the webs in which only thread 1 hears, only thread 0, and nobody.
RIGHT = ((), (0,))
LEFT = ((1,), ())
NONE = ((), ())


def check_pair_pool(pool):
    """Raises InvalidPool for anything but a pool of two threads without marks."""
    if not isinstance(pool, Pool) or pool.size != 2 or pool.is_marked:
        raise InvalidPool("this is no pool of two threads without marks")


def check_pair(pool, task):
    """The errors of a pool and a task of two threads."""
    check_pair_pool(pool)
    check_pair_task(task)


def check_any_rounds(rounds):
    """Raises InvalidNumber for anything but None or a number of rounds."""
    if rounds is not None:
        check_number(rounds, 0, MAX_ROUNDS)


def pair_kind(pool):
    """The kind of a pool of two threads."""
    check_pair_pool(pool)
    there = [web.heard for web in pool.webs]
    if NONE in there:
        return "silent"
    if RIGHT in there and LEFT in there:
        return "path" if len(there) == 3 else "apart"
    if RIGHT in there:
        return "first"
    return "second" if LEFT in there else "full"


def lone_setting(pool, task, rounds):
    """The setting of lone choices for a pool, a task and a number of rounds, or None for any number."""
    return LoneSetting(task, pair_kind(pool), rounds)


def can_ever(pool, task):
    """Whether some rule for some number of rounds does the task."""
    check_pair(pool, task)
    return lone_setting(pool, task, None).is_fitted()


def least_ever(pool, task):
    """The least number of rounds for which some rule does the task, or None."""
    if not can_ever(pool, task):
        return None
    rounds = 0
    while not lone_setting(pool, task, rounds).is_fitted():
        rounds += 1
    return rounds


def way_told(task, row, kind, one, other):
    """What a certificate tells for a row, if these are the outputs of a lone choice that fits it."""
    rights = task[row]
    if kind == "silent":
        return ((one, other),)
    if kind == "path":
        return shortest_way(task, row, one, other)
    with_one = [right for right in rights if right[0] == one]
    with_other = [right for right in rights if right[1] == other]
    told = {
        "apart": [*with_one[:1], *with_other[:1]], "first": with_one[:1], "second": with_other[:1],
        "full": rights[:1],
    }
    return tuple(told[kind])


def pair_certificate(pool, task):
    """A lone choice that fits all rows for any number of rounds, and the ways that show it."""
    check_pair(pool, task)
    chosen = lone_setting(pool, task, None).solution()
    if chosen is None:
        raise InvalidOperation("no rule of any number of rounds does the task")
    kind = pair_kind(pool)
    first = {entry: output for (thread, entry), output in chosen.items() if thread == 0}
    second = {entry: output for (thread, entry), output in chosen.items() if thread == 1}
    return (first, second, {row: way_told(task, row, kind, first[row[0]], second[row[1]]) for row in task.rows})


def are_ways_told(task, row, kind, one, other, value):
    """Whether the value is what a certificate can tell for a row with these outputs."""
    if kind == "path":
        return is_way(task, row, one, other, value)
    if not isinstance(value, tuple) or len(value) != (2 if kind == "apart" else 1):
        return False
    if not all([is_right_row(task, row, right) for right in value]):
        return False
    if kind in ("silent", "apart", "first") and value[0][0] != one:
        return False
    return kind in ("first", "full") or value[-1][1] == other


def are_lone_outputs(setting, thread, value):
    """Whether the value is a dict from the inputs of the thread to outputs that a lone choice can give."""
    if not isinstance(value, dict) or not all([setting.has_entry(thread, entry) for entry in value]):
        return False
    if not all([setting.has_output((thread, entry), output) for entry, output in value.items()]):
        return False
    return len(value) == len([entry for entry in setting.entries if entry[0] == thread])


def is_pair_certificate(pool, task, value):
    """Whether the value is a lone choice that fits all rows for any number of rounds, with ways that show it."""
    check_pair(pool, task)
    if not isinstance(value, tuple) or len(value) != 3:
        return False
    first, second, ways = value
    setting = lone_setting(pool, task, None)
    if not are_lone_outputs(setting, 0, first) or not are_lone_outputs(setting, 1, second):
        return False
    if not isinstance(ways, dict) or len(ways) != len(task) or not all([row in task for row in ways]):
        return False
    kind = pair_kind(pool)
    if not all([are_right_at_ends(task, row, kind, first[row[0]], second[row[1]]) for row in task.rows]):
        return False
    return all([
        are_ways_told(task, row, kind, first[row[0]], second[row[1]], way) for row, way in ways.items()
    ])


def are_right_at_ends(task, row, kind, one, other):
    """Whether these outputs stand in the graph of the row, where ways have to begin and end at them."""
    if kind != "path":
        return True
    return any([right[0] == one for right in task[row]]) and any([right[1] == other for right in task[row]])


def pair_refusal(pool, task, *, rounds=None):
    """A tree of questions that shows that no lone choice fits all rows."""
    check_pair(pool, task)
    check_any_rounds(rounds)
    nodes = lone_setting(pool, task, rounds).refusing_nodes()
    if nodes is None:
        raise InvalidOperation("a lone choice fits all rows")
    return nodes


def is_pair_refusal(pool, task, value, *, rounds=None):
    """Whether the value is a tree of questions that shows that no lone choice fits all rows."""
    check_pair(pool, task)
    check_any_rounds(rounds)
    if not isinstance(value, tuple) or not 1 <= len(value) <= MAX_NODES:
        return False
    return lone_setting(pool, task, rounds).is_refused_by(task, value)


def lone_view(views, thread):
    """The view of the thread, among these ones, that knows its own input alone, or None."""
    alone = [view for view in views if view[0] == thread and len(view[2]) == 1]
    return alone[0] if alone else None


def outputs_on_path(task, row, labels, first, one, other, many):
    """The outputs of the views that at most so many ties join to a lone view, by a way to that of the other thread."""
    way = list(shortest_way(task, row, one, other))
    # A way can be made longer there and back.
    way = way + [way[-1]] * (many - len(way))
    places = reach(labels, bearers_of(labels), [first])
    return {view: way[max(0, told[0] - 1)][view[0]] for view, told in places.items()}


def outputs_of_part(task, row, labels, part, one, other):
    """The outputs of the views of a row that runs join, if its lone views have the outputs one and other.

    Runs join both lone views without a round, with a web in which nobody hears, and for the kind "path".
    """
    first, second = lone_view(part, 0), lone_view(part, 1)
    if first is not None and second is not None:
        return outputs_on_path(task, row, {view: labels[view] for view in part}, first, one, other, len(part) - 1)
    rights = task[row]
    if first is not None:
        rights = [right for right in rights if right[0] == one]
    if second is not None:
        rights = [right for right in rights if right[1] == other]
    return {view: rights[0][view[0]] for view in part}


def outputs_in_row(pool, task, rounds, row, one, other):
    """The outputs of all views of a row, if its lone views have the outputs one and other."""
    runs = views_in_runs(pool, rounds, (row,))
    labels = {view: [] for view in sorted({each for told in runs.values() for each in told})}
    for run, views in runs.items():
        for view in views:
            labels[view].append((run,))
    outputs = {}
    for part in classes_of(labels):
        for view, output in outputs_of_part(task, row, labels, part, one, other).items():
            outputs[view] = output
    return outputs


def pair_rule(pool, task, rounds):
    """A rule for so many rounds that does the task, with outputs for just the views of its runs."""
    check_pair(pool, task)
    check_number(rounds, 0, MAX_ROUNDS)
    chosen = lone_setting(pool, task, rounds).solution()
    if chosen is None:
        raise InvalidOperation("no rule for so many rounds does the task")
    check_few_runs(pool, rounds, len(task))
    outputs = {}
    for row in task.rows:
        one, other = chosen[(0, row[0])], chosen[(1, row[1])]
        for view, output in outputs_in_row(pool, task, rounds, row, one, other).items():
            outputs[view] = output
    return Rule(pool, rounds, outputs)


class Choosing:
    """A lone choice that is made step by step."""

    def __init__(self, pool, task, *, rounds=None):
        check_pair(pool, task)
        check_any_rounds(rounds)
        self._pool = pool
        self._task = task
        self._rounds = rounds
        self._setting = lone_setting(pool, task, rounds)
        self._given = {}
        self._past = []
        self._stuck = None

    @property
    def outs(self):
        """The dict from the pairs (thread, input) that have an output to these."""
        return {entry: output for entry, output in sorted(list(self._given.items()))}

    @property
    def lacking(self):
        """The pairs (thread, input) without an output."""
        return tuple([entry for entry in self._setting.entries if entry not in self._given])

    @property
    def stuck(self):
        """The first row that no lone choice with the chosen outputs fits, or None."""
        return self._stuck

    def choices(self, thread, entry):
        """The outputs that a lone choice can give to this input of the thread."""
        check_number(thread, 0, 1)
        if not self._setting.has_entry(thread, entry):
            raise InvalidNumber(entry)
        return self._setting.menus[self._setting.places[(thread, entry)]]

    def give(self, thread, entry, output):
        """Gives an output, or another one, and tells what is stuck then."""
        if output not in self.choices(thread, entry) or not is_number(output, 0, MAX_OUTPUT):
            raise InvalidNumber(output)
        self._past.append(self._given)
        self._given = {**self._given, (thread, entry): output}
        self._stuck = self._setting.stuck_row(self._given)
        return self._stuck

    def undo(self, *, many=1):
        """Takes the last calls of `give` back, and tells what is stuck then."""
        check_many(many, len(self._past))
        if many > 0:
            kept = len(self._past) - many
            self._given = self._past[kept]
            self._past = self._past[:kept]
            self._stuck = self._setting.stuck_row(self._given)
        return self._stuck

    def twin(self):
        """An equal object with an equal past that goes on by itself."""
        twin = Choosing(self._pool, self._task, rounds=self._rounds)
        twin._given = self._given
        twin._past = list(self._past)
        twin._stuck = self._stuck
        return twin

    def __len__(self):
        return len(self._given)

    def __eq__(self, other):
        return (
            isinstance(other, Choosing) and self._pool == other._pool and self._task == other._task
            and self._rounds == other._rounds and self._given == other._given
        )

    def __str__(self):
        return f"{len(self._given)} of {len(self._setting.entries)} chosen"
