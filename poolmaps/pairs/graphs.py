"""Graphs of rows: the outputs in right rows of a row as points, and the right rows as ties."""

from poolmaps.base.checks import are_numbers, is_number
from poolmaps.errors import InvalidNumber, InvalidOperation, InvalidTask
from poolmaps.known.chains import classes_of, shortest_chain
from poolmaps.tasks.tasks import MAX_OUTPUT, Task

MAX_WAY = 5000


def check_pair_task(task):
    """Raises InvalidTask for anything but a task for two threads."""
    if not isinstance(task, Task) or task.size != 2:
        raise InvalidTask("this is no task for two threads")


def check_task_row(task, row):
    """The errors of a task for two threads, and of a row of it."""
    check_pair_task(task)
    if row not in task:
        raise InvalidOperation("the row does not come in the task")


def outputs_at(task, row, thread):
    """The ascending list of the outputs of the thread in right rows of the row."""
    return sorted({right[thread] for right in task[row]})


def point_labels(task, row):
    """A dict from the points (thread, output) of the graph, ascending, to the lists of their ties, as labels."""
    labels = {(thread, output): [] for thread in (0, 1) for output in outputs_at(task, row, thread)}
    for right in task[row]:
        for thread, output in enumerate(right):
            labels[(thread, output)].append((right,))
    return labels


def row_parts(task, row):
    """The ascending tuple of the parts of the graph of a row, each as its outputs of thread 0 and of thread 1."""
    check_task_row(task, row)
    return tuple(sorted([
        tuple([tuple([output for thread, output in part if thread == own]) for own in (0, 1)])
        for part in classes_of(point_labels(task, row))
    ]))


def lengths_of_ways(task, row):
    """A dict from the pairs of outputs that ways join to the least lengths of such ways."""
    seconds, firsts = {}, {}
    for one, other in task[row]:
        seconds.setdefault(one, []).append(other)
        firsts.setdefault(other, []).append(one)
    lengths = {}
    for one in seconds:
        reached, layer, length = {one: True}, [one], 1
        while layer:
            ends = sorted({other for each in layer for other in seconds[each] if (one, other) not in lengths})
            for other in ends:
                lengths[(one, other)] = length
            layer = sorted({each for other in ends for each in firsts[other] if each not in reached})
            for each in layer:
                reached[each] = True
            length += 2
    return lengths


def check_ends(task, row, one, other):
    """The errors of what tells or judges a way between two outputs."""
    check_task_row(task, row)
    for thread, output in enumerate((one, other)):
        if not is_number(output, 0, MAX_OUTPUT) or output not in outputs_at(task, row, thread):
            raise InvalidNumber(output)


def shortest_way(task, row, one, other):
    """A way with as few right rows as possible, or None."""
    check_ends(task, row, one, other)
    steps = shortest_chain(point_labels(task, row), (0, one), (1, other))
    return None if steps is None else tuple([right for right, _ in steps])


def way_length(task, row, one, other):
    """The least number of right rows of a way, or None."""
    way = shortest_way(task, row, one, other)
    return None if way is None else len(way)


def is_right_row(task, row, value):
    """Whether the value is a right output row for a row of the task."""
    return are_numbers(value, 0, MAX_OUTPUT) and value in task[row]


def is_way(task, row, one, other, value):
    """Whether the value is a way, of at most 5000 right rows."""
    check_ends(task, row, one, other)
    if not isinstance(value, tuple) or len(value) > MAX_WAY or len(value) % 2 == 0:
        return False
    if not all([is_right_row(task, row, right) for right in value]):
        return False
    if value[0][0] != one or value[-1][1] != other:
        return False
    return all([value[at][at % 2] == value[at - 1][at % 2] for at in range(1, len(value))])
