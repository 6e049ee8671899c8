"""Part 5a: tasks, with [0.13], [0.14] and [5.1]."""

from itertools import product

from poolmaps.base.pools import pair_pool
from poolmaps.errors import InvalidNumber, InvalidOperation, InvalidTask, TooMany, UnknownName
from poolmaps.tasks.tasks import Task, agreement_task, choice_task, near_task
from tests.support import WRONG, Case, is_int, is_int_tuple, near_values, not_numbers, orders, wrong_where

AGREE = agreement_task(2)
ODD = Task({(0, 1): ((0, 0), (3, 99)), (9, 9): ((1, 2),)})
TASKS = [
    AGREE, ODD, near_task(2, 2), agreement_task(1), agreement_task(3), choice_task(3, 2),
    Task({(5,): ((0,), (7,))}), Task({(1, 0): ((0, 0),)}), Task({(0, 1): ((0, 0),), (1, 1): ((1, 1), (2, 2))}),
]


def is_slow_table(value):
    """The definition, sentence by sentence."""
    if type(value) is not dict or not 1 <= len(value) <= 64:
        return False
    sizes = set()
    for row, rights in value.items():
        if not is_int_tuple(row) or type(rights) is not tuple or not 1 <= len(rights) <= 256:
            return False
        if not all(0 <= entry <= 9 for entry in row) or not all(is_int_tuple(right) for right in rights):
            return False
        if list(rights) != sorted(set(rights)) or not all(0 <= part <= 99 for right in rights for part in right):
            return False
        sizes |= {len(row), *[len(right) for right in rights]}
    return len(sizes) == 1 and sizes <= {1, 2, 3, 4, 5}


def not_tasks(size=None):
    return wrong_where(lambda value: type(value) is Task and size in (None, value.size), AGREE.table)


def outputs_of(task):
    return sorted({part for rights in task.table.values() for right in rights for part in right})


class TaskTest(Case):
    def test_properties(self):
        for task in TASKS:
            size = len(task.rows[0])
            self.assertEqual((task.size, task.rows), (size, tuple(sorted(task.table))))
            self.assertEqual((list(task), len(task)), (list(task.rows), len(task.rows)))
            self.assertEqual(str(task), f"task of {size} threads, {len(task.rows)} rows")
            self.assertEqual(list(task.table), list(task.rows))
            for row in task.rows:
                self.assertEqual(task[row], task.table[row])
                self.assertIs(row in task, True)
            for thread in range(size):
                told = {right[thread] for rights in task.table.values() for right in rights}
                self.assertEqual(task.outputs(thread), tuple(sorted(told)))
            self.checks_arguments(task.outputs, [0], [(InvalidNumber, not_numbers(0, size - 1))])

    def test_rows_in_any_order(self):
        turned = Task(dict(reversed(AGREE.table.items())))
        self.assertEqual((turned, list(turned.table), turned.rows), (AGREE, list(AGREE.table), AGREE.rows))

    def test_wrong_tables(self):
        self.checks_arguments(Task, [AGREE.table], [(InvalidTask, wrong_where(is_slow_table))])
        for table in (ODD.table, {(5,): ((0,), (7,))}, choice_task(3, 1).table):
            for value in near_values(table):
                if is_slow_table(value):
                    self.assertEqual(Task(value).table, value)
                else:
                    self.fails(InvalidTask, Task, value)
        for value in ({(0,) * 6: ((0,) * 6,)}, {(): ((),)}, {(0, 1): ()}, {(0, 1): ((0, 1), (0, 1))}, {(0, 1): ((0, 100),)},
                      {(0, 1): ((0, 1),), (0,): ((0,),)}, {(0, 10): ((0, 0),)}, {(0, 1): [(0, 0)]}, {(0, 1): ((0, True),)},
                      {(0, 1): ((1, 0), (0, 1))}, {(0, 1): ((0, -1),)}, {(0, 1): ((0, 10 ** 60),)}, {0: ((0,),)}):
            self.fails(InvalidTask, Task, value)

    def test_limits(self):
        rows = [(a, b, 0) for a in range(10) for b in range(7)]
        rights = tuple((a, b, 0) for a in range(26) for b in range(10))
        self.assertEqual(len(Task({row: ((0, 0, 0),) for row in rows[:64]})), 64)
        self.fails(InvalidTask, Task, {row: ((0, 0, 0),) for row in rows[:65]})
        self.assertEqual(len(Task({(0, 0, 0): rights[:256]})[0, 0, 0]), 256)
        self.fails(InvalidTask, Task, {(0, 0, 0): rights[:257]})
        full = Task({row: ((0, 0, 0),) for row in rows[:64]})
        self.fails(InvalidTask, full.with_row, rows[64], ((0, 0, 0),))
        self.assertEqual(full.with_row(rows[63], ((1, 1, 1),))[rows[63]], ((1, 1, 1),))
        one, other = (Task({row: ((0, 0, 0),) for row in part}) for part in (rows[:40], rows[30:65]))
        self.fails(InvalidTask, lambda: one & other)
        self.assertEqual((one & other.without_row(rows[64])).rows, tuple(rows[:64]))

    def test_wrong_rows(self):
        for value in [*WRONG, (0, 5), (0, 1, 0), [0, 1]]:
            if is_int_tuple(value) and value in AGREE.table:
                continue
            self.assertIs(value in AGREE, False)
            self.assertIs(self.fails(UnknownName, lambda: AGREE[value]).wanted, value)
            self.assertIs(self.fails(UnknownName, AGREE.without_row, value).wanted, value)

    def test_rows_more_and_less(self):
        for task in TASKS:
            for row in task.rows:
                if len(task) == 1:
                    self.fails(InvalidTask, task.without_row, row)
                else:
                    less = task.without_row(row)
                    self.assertEqual(less.table, {each: told for each, told in task.table.items() if each != row})
                    self.assertEqual(less.with_row(row, task[row]), task)
        self.assertEqual(AGREE.with_row((0, 1), ((5, 5),))[(0, 1)], ((5, 5),))
        self.assertEqual(AGREE.with_row((0, 7), ((5, 5),)).rows, ((0, 0), (0, 1), (0, 7), (1, 0), (1, 1)))
        for row in wrong_where(lambda value: is_int_tuple(value) and len(value) == 2 and min(value) >= 0, (0, 10)):
            self.fails(InvalidTask, AGREE.with_row, row, ((0, 0),))
        for rights in wrong_where(lambda value: is_slow_table({(0, 1): value}), ((0, 0), (0, 0)), [(0, 0)]):
            self.fails(InvalidTask, AGREE.with_row, (0, 1), rights)
        self.assertEqual(AGREE, agreement_task(2))

    def test_both(self):
        for one, other in product(TASKS, repeat=2):
            if one.size != other.size:
                self.fails(InvalidOperation, lambda: one & other)
                continue
            table = {**one.table, **other.table}
            for row in set(one.table) & set(other.table):
                table[row] = tuple(right for right in one[row] if right in other[row])
            if not all(table.values()):
                self.fails(InvalidTask, lambda: one & other)
            else:
                self.assertEqual((one & other).table, table)
        for value in not_tasks(2):
            self.fails(InvalidOperation, lambda: AGREE & value)

    def test_easier(self):
        tasks = [*TASKS, AGREE.without_row((0, 1)), AGREE.with_row((0, 1), ((0, 0),)), AGREE.with_row((5, 5), ((0, 0),)),
                 AGREE.with_row((0, 1), ((0, 0), (0, 1), (1, 1)))]
        for one, other in product(tasks, repeat=2):
            if one.size != other.size:
                self.fails(InvalidTask, one.is_easier, other)
            else:
                told = all(row in other.table and set(other.table[row]) <= set(rights) for row, rights in one.table.items())
                self.assertIs(one.is_easier(other), told)
        self.checks_arguments(AGREE.is_easier, [AGREE], [(InvalidTask, not_tasks(2))])

    def test_replaced(self):
        for task in TASKS:
            there = outputs_of(task)
            for shift in (0, 1, 17):
                outputs = {output: (output * 7 + shift) // 3 % 100 for output in reversed(there)}
                table = {
                    row: tuple(sorted({tuple(outputs[part] for part in right) for right in rights}))
                    for row, rights in task.table.items()}
                self.assertEqual(task.replaced(outputs), Task(table))
            self.assertEqual(task.replaced({output: 0 for output in there})[task.rows[0]], ((0,) * task.size,))
        right = {0: 5, 1: 5}
        for value in [*near_values(right), *WRONG, {0: 100, 1: 0}, {0: 1}, {0: 1, 1: 0, 2: 3}, {False: 0, True: 1}]:
            keys = type(value) is dict and all(is_int(key) for key in value) and sorted(value) == [0, 1]
            if keys and all(is_int(output) and 0 <= output <= 99 for output in value.values()):
                AGREE.replaced(value)
            else:
                self.fails(InvalidOperation, AGREE.replaced, value)

    def test_renumbered(self):
        for task in TASKS:
            for numbers in orders(task.size):
                told = task.renumbered(numbers)
                for row, rights in task.table.items():
                    moved = tuple(row[numbers.index(thread)] for thread in range(task.size))
                    self.assertEqual(told[moved], tuple(sorted(
                        tuple(right[numbers.index(thread)] for thread in range(task.size)) for right in rights)))
                self.assertEqual(len(told), len(task))
        wrong = wrong_where(lambda value: is_int_tuple(value) and value in orders(2))
        self.checks_arguments(AGREE.renumbered, [(0, 1)], [(InvalidOperation, wrong)])

    def test_equality(self):
        for at, one in enumerate(TASKS):
            for place, other in enumerate(TASKS):
                self.assertIs(one == Task(other.table), at == place)
                self.assertIs(one != Task(other.table), at != place)
        for value in [*WRONG, AGREE.table, AGREE.rows]:
            self.assertIs(AGREE == value, False)

    def test_told_and_passed_dicts_are_not_shared(self):
        table = {(0, 0): ((0, 0),), (0, 1): ((1, 1),)}
        task = Task(table)
        table[0, 0] = ((5, 5),)
        task.table[0, 1] = ((6, 6),)
        task.table.clear()
        self.assertEqual(task.table, {(0, 0): ((0, 0),), (0, 1): ((1, 1),)})


class TasksTest(Case):
    def test_agreement(self):
        for size, values in product(range(1, 6), range(1, 11)):
            if values ** size > 64:
                self.fails_keeping(TooMany, 64, agreement_task, size, values)
                continue
            table = {row: tuple((part,) * size for part in sorted(set(row))) for row in product(range(values), repeat=size)}
            self.assertEqual(agreement_task(size, values).table, table)
        self.assertEqual(agreement_task(3), agreement_task(3, 2))
        self.checks_arguments(agreement_task, [2, 2], [
            (InvalidNumber, not_numbers(1, 5)), (InvalidNumber, not_numbers(1, 10))])

    def test_near(self):
        for size, most in product(range(1, 6), (1, 2, 3, 7, 8, 9, 18, 19, 84, 85, 86, 99)):
            mixed = [
                right for least in range(most) for right in product((least, least + 1), repeat=size)]
            if size > 1 and len(set(mixed)) > 256:
                self.fails_keeping(TooMany, 256, near_task, size, most)
                continue
            table = {row: tuple(sorted(set(mixed))) for row in product((0, 1), repeat=size)}
            table[(0,) * size], table[(1,) * size] = ((0,) * size,), ((most,) * size,)
            self.assertEqual(near_task(size, most).table, table)
        for right in product(range(4), repeat=3):
            near = all(abs(a - b) <= 1 for a in right for b in right)
            self.assertIs(right in near_task(3, 3)[0, 1, 0], near)
        self.checks_arguments(near_task, [2, 2], [
            (InvalidNumber, not_numbers(1, 5)), (InvalidNumber, not_numbers(1, 99))])

    def test_choice(self):
        for size in range(1, 6):
            for many in range(1, size + 1):
                rights = tuple(right for right in product(range(size), repeat=size) if len(set(right)) <= many)
                if len(rights) > 256:
                    self.fails_keeping(TooMany, 256, choice_task, size, many)
                else:
                    self.assertEqual(choice_task(size, many).table, {tuple(range(size)): rights})
            self.checks_arguments(choice_task, [size, 1], [
                (InvalidNumber, not_numbers(1, 5)), (InvalidNumber, not_numbers(1, size))])

    def test_pools_are_no_tasks(self):
        self.fails(InvalidTask, Task, pair_pool("R"))
