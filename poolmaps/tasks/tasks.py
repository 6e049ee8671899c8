"""Tasks: which output rows are right for which rows of inputs."""

from poolmaps.base.checks import are_all_numbers, are_numbers, check_number, is_climbing, is_number
from poolmaps.base.webs import MAX_THREADS
from poolmaps.errors import InvalidOperation, InvalidTask, TooMany, UnknownName
from poolmaps.known.sights import MAX_ROWS, all_rows, count_rows, is_row

MAX_OUTPUT = 99
MAX_RIGHTS = 256
MAX_VALUES = 10


def are_rights(value, size):
    """Whether the value is an ascending tuple of 1 to 256 output rows."""
    if not isinstance(value, tuple) or not 1 <= len(value) <= MAX_RIGHTS:
        return False
    if not all([are_numbers(right, 0, MAX_OUTPUT) and len(right) == size for right in value]):
        return False
    return is_climbing(value)


def is_task_table(value):
    """Whether the value is a dict from 1 to 64 rows of one length to their right output rows."""
    if not isinstance(value, dict) or not 1 <= len(value) <= MAX_ROWS:
        return False
    first = list(value)[0]
    if not isinstance(first, tuple) or not 1 <= len(first) <= MAX_THREADS:
        return False
    return all([is_row(row, len(first)) and are_rights(rights, len(first)) for row, rights in value.items()])


def is_replacement(value, outputs):
    """Whether the value is a dict from just these ascending outputs to outputs."""
    if not isinstance(value, dict) or not all([is_number(key, 0, MAX_OUTPUT) for key in value]):
        return False
    return sorted(value) == outputs and all([is_number(output, 0, MAX_OUTPUT) for output in value.values()])


def rights_in_both(one, other):
    """What is right in both of these tuples of output rows."""
    there = {right: True for right in other}
    return tuple([right for right in one if right in there])


def table_of_both(one, other):
    """The table of all rows of two tables, in which only what both tell is right for a row of both."""
    return {
        row: rights_in_both(one.get(row, other.get(row)), other.get(row, one.get(row))) for row in [*one, *other]
    }


class Task:
    """Which output rows are right for some rows. Tasks never change."""

    def __init__(self, table):
        if not is_task_table(table):
            raise InvalidTask("this is no dict from rows to right output rows")
        self._table = {row: table[row] for row in sorted(table)}
        self._rows = tuple(self._table)
        self._size = len(self._rows[0])
        self._outputs = [
            tuple(sorted({right[thread] for rights in table.values() for right in rights}))
            for thread in range(self._size)
        ]

    @property
    def size(self):
        """The number of threads."""
        return self._size

    @property
    def rows(self):
        """The rows, ascending."""
        return self._rows

    @property
    def table(self):
        """The dict from the rows to their right output rows."""
        return {row: rights for row, rights in self._table.items()}

    def outputs(self, thread):
        """The ascending tuple of all outputs of the thread in right output rows."""
        check_number(thread, 0, self._size - 1)
        return self._outputs[thread]

    def with_row(self, row, rights):
        """The task with this row, in the place of an equal one."""
        if not is_row(row, self._size):
            raise InvalidTask("this is no row for so many threads")
        table = self.table
        table[row] = rights
        return Task(table)

    def without_row(self, row):
        """The task without this row."""
        if row not in self:
            raise UnknownName(row)
        return Task({each: rights for each, rights in self._table.items() if each != row})

    def is_easier(self, other):
        """Whether each row is a row of the other task, and all that is right for it there is right here."""
        check_task_like(other, self)
        if not all([row in other for row in self._rows]):
            return False
        return all([
            len(rights_in_both(other._table[row], rights)) == len(other._table[row])
            for row, rights in self._table.items()
        ])

    def replaced(self, outputs):
        """The task with all outputs replaced."""
        there = sorted({output for told in self._outputs for output in told})
        if not is_replacement(outputs, there):
            raise InvalidOperation("these are not just the outputs that occur")
        return Task({
            row: tuple(sorted({tuple([outputs[output] for output in right]) for right in rights}))
            for row, rights in self._table.items()
        })

    def renumbered(self, numbers):
        """The task in which each thread has its new number."""
        if not are_all_numbers(numbers, self._size):
            raise InvalidOperation("the numbers are not a tuple with each thread once")
        return Task({
            moved_row(row, numbers): tuple(sorted([moved_row(right, numbers) for right in rights]))
            for row, rights in self._table.items()
        })

    def __and__(self, other):
        if not isinstance(other, Task) or other._size != self._size:
            raise InvalidOperation("this is no task of the same size")
        return Task(table_of_both(self._table, other._table))

    def __getitem__(self, at):
        if at not in self:
            raise UnknownName(at)
        return self._table[at]

    def __contains__(self, x):
        return is_row(x, self._size) and x in self._table

    def __iter__(self):
        return iter(self._rows)

    def __len__(self):
        return len(self._rows)

    def __eq__(self, other):
        return isinstance(other, Task) and self._table == other._table

    def __str__(self):
        return f"task of {self._size} threads, {len(self._rows)} rows"


def check_task(task):
    """Raises InvalidTask for anything but a task."""
    if not isinstance(task, Task):
        raise InvalidTask("this is no task")


def check_task_like(other, task):
    """Raises InvalidTask for anything but a task of the size of this one."""
    if not isinstance(other, Task) or other.size != task.size:
        raise InvalidTask("this is no task of so many threads")


def check_sizes(pool, task):
    """Raises InvalidOperation for a pool and a task of unlike sizes."""
    if pool.size != task.size:
        raise InvalidOperation("the task is for another number of threads")


def moved_row(row, numbers):
    """The row, or output row, in which each thread has its new number."""
    moved = [0] * len(row)
    for thread, number in enumerate(numbers):
        moved[number] = row[thread]
    return tuple(moved)


def check_few_rights(many):
    """Raises TooMany for too many right output rows."""
    if many > MAX_RIGHTS:
        raise TooMany(MAX_RIGHTS)


def agreement_task(size, values=2):
    """The task in which all outputs are equal, and equal to some input."""
    check_number(size, 1, MAX_THREADS)
    check_number(values, 1, MAX_VALUES)
    if count_rows(size, values) > MAX_ROWS:
        raise TooMany(MAX_ROWS)
    return Task({
        row: tuple([(output,) * size for output in sorted(set(row))]) for row in all_rows(size, values)
    })


def near_rights(size, most):
    """The ascending tuple of the output rows up to `most` in which any two outputs differ by at most 1."""
    return tuple(sorted({
        tuple([least + part for part in raised]) for least in range(most) for raised in all_rows(size, 2)
    }))


def near_task(size, most):
    """Near agreement with so many steps, for all rows of inputs 0 and 1."""
    check_number(size, 1, MAX_THREADS)
    check_number(most, 1, MAX_OUTPUT)
    mixed = all_rows(size, 2)[1:-1]
    # All outputs equal to 0, or, for each least output below `most`, some of the others greater by 1.
    check_few_rights(1 + most * (count_rows(size, 2) - 1) if mixed else 1)
    rights = near_rights(size, most) if mixed else ()
    table = {row: rights for row in mixed}
    table[(0,) * size] = ((0,) * size,)
    table[(1,) * size] = ((most,) * size,)
    return Task(table)


def count_choices(size, many):
    """The number of rows of so many threads, with inputs below their number, with at most `many` different ones."""
    counts = [1]
    for _ in range(size):
        counts = [
            (counts[unlike] * unlike if unlike < len(counts) else 0)
            + (counts[unlike - 1] * (size - unlike + 1) if unlike > 0 else 0)
            for unlike in range(len(counts) + 1)
        ]
    return sum(counts[:many + 1])


def choice_task(size, many):
    """The task with one row, all inputs unlike, in which at most so many different ones are put out."""
    check_number(size, 1, MAX_THREADS)
    check_number(many, 1, size)
    check_few_rights(count_choices(size, many))
    rights = tuple([right for right in all_rows(size, size) if len(set(right)) <= many])
    return Task({tuple(range(size)): rights})
