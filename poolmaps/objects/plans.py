"""Plans: an object that two threads share in each round, and what they can tell by it."""

from poolmaps.base.checks import are_numbers, check_number, is_number, is_pair
from poolmaps.base.pools import Pool
from poolmaps.base.webs import MAX_MARK, Web
from poolmaps.errors import InvalidOperation
from poolmaps.known.sights import all_rows, views_in_runs
from poolmaps.objects.kinds import check_kind
from poolmaps.tasks.rules import Rule

MAX_PLAN_VALUES = 8
STEPS = 3
ANSWER_WORTH = 100


class Plan:
    """A kind, a start state, and an operation for each of two threads. Plans never change."""

    def __init__(self, kind, start, first, second):
        check_kind(kind)
        check_number(start, 0, kind.states - 1)
        check_number(first, 0, kind.operations - 1)
        check_number(second, 0, kind.operations - 1)
        self._kind = kind
        self._start = start
        self._operations = (first, second)

    @property
    def kind(self):
        """The kind of the object."""
        return self._kind

    @property
    def start(self):
        """The state with which each round begins."""
        return self._start

    @property
    def operations(self):
        """The pair of the operations of both threads."""
        return self._operations

    def seen(self, thread, order):
        """The pair (answer, state) that the thread sees behind the operations of the threads in this order."""
        check_number(thread, 0, 1)
        if not are_numbers(order, 0, 1) or len(set(order)) < len(order) or thread not in order:
            raise InvalidOperation("this is no tuple of different threads with this one among them")
        state, answers = self._kind.after(self._start, tuple([self._operations[each] for each in order]))
        return (answers[order.index(thread)], state)

    def turned(self):
        """The plan with the operations exchanged."""
        return Plan(self._kind, self._start, self._operations[1], self._operations[0])

    def __eq__(self, other):
        return (
            isinstance(other, Plan) and self._kind == other._kind and self._start == other._start
            and self._operations == other._operations
        )

    def __str__(self):
        return f"plan from {self._start} by {self._operations[0]} and {self._operations[1]}"


def check_plan(plan):
    """Raises InvalidOperation for anything but a plan."""
    if not isinstance(plan, Plan):
        raise InvalidOperation("this is no plan")


def interleavings():
    """The ascending tuple of all orders in which two threads make three steps each."""
    return tuple([steps for steps in all_rows(2 * STEPS, 2) if sum(steps) == STEPS])


def is_interleaving(value):
    """Whether the value is a tuple in which each of two threads stands three times."""
    return are_numbers(value, 0, 1) and len(value) == 2 * STEPS and sum(value) == STEPS


def told_by_steps(plan, steps):
    """What is told behind the first steps of a round: the state, who has written, the answers and the signals."""
    state = plan.start
    made = [0, 0]
    written = []
    answers = [None, None]
    signals = [None, None]
    for thread in steps:
        made[thread] += 1
        if made[thread] == 1:
            written.append(thread)
        elif made[thread] == 2:
            state, answers[thread] = plan.kind.step(state, plan.operations[thread])
        else:
            signals[thread] = (tuple(sorted(written)), ANSWER_WORTH * answers[thread] + state)
    return (state, tuple(sorted(written)), tuple(answers), tuple(signals))


def signals_behind(plan, steps):
    """The signals of both threads behind an interleaving."""
    return told_by_steps(plan, steps)[3]


def web_of_signals(signals):
    """The web in which the threads have these signals."""
    heard = [tuple([other for other in hearing if other != thread]) for thread, (hearing, _) in enumerate(signals)]
    return Web(tuple(heard), tuple([mark for _, mark in signals]))


def plan_web(plan, steps):
    """The web of an interleaving."""
    check_plan(plan)
    if not is_interleaving(steps):
        raise InvalidOperation("this is no interleaving")
    return web_of_signals(signals_behind(plan, steps))


def plan_pool(plan):
    """The pool of the webs of all interleavings, each where it comes first."""
    check_plan(plan)
    told = {signals_behind(plan, steps): True for steps in interleavings()}
    return Pool(tuple([web_of_signals(signals) for signals in told]))


def confusions(plan):
    """The list of all confusions of a plan."""
    return [
        (thread, order)
        for thread, other in ((0, 1), (1, 0)) for order in ((thread,), (thread, other))
        if plan.seen(thread, order) == plan.seen(thread, (other, thread))
    ]


def tells(plan):
    """Whether both threads see by the object whose operation was first."""
    check_plan(plan)
    return not confusions(plan)


def confusion(plan):
    """A thread and an own order behind which it sees the same as behind the other's order, or None."""
    check_plan(plan)
    found = confusions(plan)
    return found[0] if found else None


def is_confusion(plan, value):
    """Whether the value is a confusion of the plan."""
    check_plan(plan)
    return is_pair(value) and is_number(value[0], 0, 1) and are_numbers(value[1], 0, 1) and value in confusions(plan)


def confused_group(plan, value):
    """The ascending tuple of the indices of the webs of the four interleavings of a confusion."""
    if not is_confusion(plan, value):
        raise InvalidOperation("this is no confusion of the plan")
    one, order = value
    two = 1 - one
    own = (one, two, one, one, two, two) if len(order) == 1 else (one, two, one, two, one, two)
    turns = ((one, one, one, two, two, two), own, (one, two, two, one, one, two), (two, two, two, one, one, one))
    pool = plan_pool(plan)
    return tuple(sorted({pool.index_of(web_of_signals(signals_behind(plan, steps))) for steps in turns}))


def first_to_do(steps):
    """The thread that is the first one to make its second step."""
    for at in range(1, len(steps)):
        if steps[at] in steps[:at]:
            return steps[at]
    return None


def first_by_signal(plan):
    """A dict from the pairs (thread, signal) to the thread that was first, or None if there are some of each."""
    firsts = {}
    for steps in interleavings():
        first = first_to_do(steps)
        for key in enumerate(signals_behind(plan, steps)):
            if firsts.setdefault(key, first) != first:
                firsts[key] = None
    return firsts


def first_done(plan, thread, signal):
    """The thread whose operation was first whenever the thread has this signal, or None."""
    check_plan(plan)
    check_number(thread, 0, 1)
    firsts = first_by_signal(plan)
    plain = is_pair(signal) and are_numbers(signal[0], 0, 1) and is_number(signal[1], 0, MAX_MARK)
    if not plain or (thread, signal) not in firsts:
        raise InvalidOperation("no web gives the thread this signal")
    return firsts[(thread, signal)]


def plan_rule(plan, *, values=2):
    """The rule for one round by which each thread puts out the input of the thread that was first."""
    check_plan(plan)
    check_number(values, 1, MAX_PLAN_VALUES)
    if not tells(plan):
        raise InvalidOperation("the plan does not tell")
    pool, firsts = plan_pool(plan), first_by_signal(plan)
    outputs = {}
    for run, views in views_in_runs(pool, 1, all_rows(2, values)).items():
        row, word = run
        for view in views:
            outputs[view] = row[firsts[(view[0], pool.webs[word[0]].signals[view[0]])]]
    return Rule(pool, 1, outputs)


def telling_plans(kind):
    """The ascending tuple of the triples (start, first, second) whose plans tell."""
    check_kind(kind)
    return tuple([
        (start, first, second)
        for start in range(kind.states) for first in range(kind.operations) for second in range(kind.operations)
        if tells(Plan(kind, start, first, second))
    ])
