"""Part 6a: graphs of rows, with [6.2]."""

from itertools import product
from random import Random

from poolmaps.errors import InvalidNumber, InvalidOperation, InvalidTask
from poolmaps.pairs.graphs import is_way, row_parts, shortest_way, way_length
from poolmaps.tasks.tasks import Task, agreement_task, near_task
from tests.support import Case, is_int, is_int_tuple, near_values, slow_classes, wrong_where
from tests.test_tasks import not_tasks

NEAR, AGREE = near_task(2, 3), agreement_task(2)
NO_TASKS = (InvalidTask, not_tasks(2))


def drawn_task(drawn, inputs=2, outputs=4, rows=4, rights=5):
    """A task of two threads."""
    chosen = drawn.sample(list(product(range(inputs), repeat=2)), drawn.randrange(1, min(rows, inputs ** 2) + 1))
    pairs = list(product(range(outputs), repeat=2))
    return Task({row: tuple(sorted(drawn.sample(pairs, drawn.randrange(1, min(rights, len(pairs)) + 1)))) for row in chosen})


def is_slow_way(task, row, one, other, value):
    """The definition, right row by right row."""
    if type(value) is not tuple or len(value) % 2 == 0 or len(value) > 5000:
        return False
    for at, right in enumerate(value):
        if not is_int_tuple(right) or right not in task.table[row]:
            return False
        if at and right[at % 2] != value[at - 1][at % 2]:
            return False
    return value[0][0] == one and value[-1][1] == other


def slow_length(task, row, one, other):
    """The least length of a way, by going on from right row to right row."""
    rights = task.table[row]
    now = [right for right in rights if right[0] == one]
    for length in range(1, 4 * len(rights) + 2):
        if length % 2 and any(right[1] == other for right in now):
            return length
        now = [right for right in rights if any(right[length % 2] == each[length % 2] for each in now)]
    return None


def outputs_at(task, row, thread):
    return sorted({right[thread] for right in task.table[row]})


def tasks(seed, many):
    drawn = Random(seed)
    told = [NEAR, AGREE, near_task(2, 7), Task({(0, 0): tuple((a, 0) for a in range(4))})]
    return told + [drawn_task(drawn, 2, drawn.choice((2, 4, 6)), 3, drawn.choice((3, 6, 9))) for _ in range(many)]


class GraphsTest(Case):
    def test_parts(self):
        for task in tasks(47, 60):
            for row in task.rows:
                classes = slow_classes(list(task[row]), lambda one, other: one[0] == other[0] or one[1] == other[1])
                parts = [tuple(tuple(sorted({right[thread] for right in each})) for thread in (0, 1)) for each in classes]
                self.assertEqual(row_parts(task, row), tuple(sorted(parts)))

    def test_ways(self):
        for task in tasks(53, 40):
            for row in task.rows:
                for one, other in product(outputs_at(task, row, 0), outputs_at(task, row, 1)):
                    length = slow_length(task, row, one, other)
                    self.assertEqual(way_length(task, row, one, other), length)
                    way = shortest_way(task, row, one, other)
                    if length is None:
                        self.assertIsNone(way)
                    else:
                        self.assertEqual(len(way), length)
                        self.assertTrue(is_slow_way(task, row, one, other, way))
                        self.assertIs(is_way(task, row, one, other, way), True)

    def test_all_short_values(self):
        for task in tasks(59, 12):
            row = task.rows[-1]
            one, other = outputs_at(task, row, 0)[0], outputs_at(task, row, 1)[-1]
            for many in range(5 if len(task[row]) < 5 else 4):
                for value in product(task[row], repeat=many):
                    self.assertIs(is_way(task, row, one, other, value), is_slow_way(task, row, one, other, value))

    def test_values_near_ways(self):
        row = (0, 1)
        for one, other in ((0, 3), (0, 1), (3, 3), (2, 0)):
            for value in near_values(shortest_way(NEAR, row, one, other)):
                self.assertIs(is_way(NEAR, row, one, other, value), is_slow_way(NEAR, row, one, other, value))
            self.judges(is_way, [NEAR, row, one, other])

    def test_long_ways(self):
        way = ((0, 0),) * 4999
        self.assertIs(is_way(NEAR, (0, 1), 0, 0, way), True)
        self.assertIs(is_way(NEAR, (0, 1), 0, 0, way + way[:2]), False)
        long = near_task(2, 85)
        self.assertEqual((way_length(long, (0, 1), 0, 85), way_length(long, (0, 1), 85, 0)), (85, 85))

    def test_wrong_arguments(self):
        no_rows = (InvalidOperation, wrong_where(lambda value: is_int_tuple(value) and value in NEAR.table, (0, 2), [0, 1]))
        self.checks_arguments(row_parts, [NEAR, (0, 1)], [NO_TASKS, no_rows])
        no_outputs = (InvalidNumber, wrong_where(lambda value: is_int(value) and 0 <= value <= 3, 4, -1))
        for call, more in ((way_length, []), (shortest_way, []), (is_way, [None])):
            self.checks_arguments(call, [NEAR, (0, 1), 0, 1, *more], [
                NO_TASKS, no_rows, no_outputs, no_outputs, *[None for _ in more]])
            self.fails_keeping(InvalidNumber, 1, call, NEAR, (0, 0), 1, 2, *more)
            self.fails_keeping(InvalidNumber, 2, call, NEAR, (0, 0), 0, 2, *more)
