"""Kinds of objects, against operations done one by one by hand."""

from itertools import product
from random import Random

from poolmaps.errors import InvalidKind, InvalidNumber, InvalidOperation, TooMany
from poolmaps.objects.kinds import (
    MAX_OPERATIONS, MAX_STATES, Kind, adder_kind, cell_kind, flag_kind, sticky_kind, swap_kind,
)
from tests.support import WRONG, Case, is_int, is_int_tuple, near_values, not_numbers, orders, wrong_where

NAMED = [
    flag_kind(), adder_kind(1), adder_kind(3), adder_kind(12), swap_kind(1), swap_kind(7), cell_kind(1), cell_kind(2),
    cell_kind(7), sticky_kind(1), sticky_kind(3), sticky_kind(7),
]


def drawn_kind(drawn, states=5, operations=4):
    many, some = drawn.randrange(1, states + 1), drawn.randrange(1, operations + 1)
    return Kind(tuple(
        tuple((drawn.randrange(many), drawn.choice((0, 1, 2, 99))) for _ in range(some)) for _ in range(many)))


def drawn_kinds(number, seed=5):
    drawn = Random(seed)
    return [drawn_kind(drawn) for _ in range(number)]


def is_right_table(value):
    if type(value) is not tuple or not 1 <= len(value) <= 12 or not all(type(told) is tuple for told in value):
        return False
    if not 1 <= len(value[0]) <= 8 or any(len(told) != len(value[0]) for told in value):
        return False
    return all(is_int_tuple(pair) and len(pair) == 2 and 0 <= pair[0] < len(value) and 0 <= pair[1] <= 99
               for told in value for pair in told)


def after_by_hand(table, state, operations):
    answers = ()
    for operation in operations:
        pair = table[state][operation]
        state, answers = pair[0], answers + (pair[1],)
    return state, answers


class KindsTest(Case):
    def test_constants(self):
        self.assertEqual((MAX_STATES, MAX_OPERATIONS), (12, 8))

    def test_tables_that_are_none(self):
        right = (((1, 0), (0, 99)), ((1, 1), (0, 0)))
        wide, long = (((0, 0),) * 8,), (((11, 0),),) * 12
        for table in (right, wide, long, (((0, 0),),)):
            self.assertEqual(Kind(table).table, table)
            for value in near_values(table):
                if is_right_table(value):
                    self.assertEqual(Kind(value).table, value)
                else:
                    self.fails(InvalidKind, Kind, value)
        for value in [*WRONG, (((0, 0),) * 9,), (((0, 0),),) * 13, ((),), (((0, 0),), ((0, 0), (0, 0))), flag_kind()]:
            if not is_right_table(value):
                self.fails(InvalidKind, Kind, value)
        for pair in ((2, 0), (0, 100), (-1, 0), (0, -1), (True, 0), (0, False), (0,), (0, 0, 0), [0, 0], "00", None,
                     (10 ** 60, 0), (0, 10 ** 99)):
            self.fails(InvalidKind, Kind, (((0, 0), pair), ((0, 0), (1, 1))))

    def test_properties_and_steps(self):
        for kind in [*NAMED, *drawn_kinds(40)]:
            table = kind.table
            self.assertEqual((kind.states, len(kind), kind.operations), (len(table), len(table), len(table[0])))
            self.assertEqual(kind.answers, tuple(sorted({pair[1] for told in table for pair in told})))
            self.assertEqual(str(kind), f"kind of {len(table)} states, {len(table[0])} operations")
            for state, operation in product(range(len(table)), range(len(table[0]))):
                self.assertEqual(kind.step(state, operation), table[state][operation])
                self.assertIs((state, operation) in kind, True)
                for operations in ((), (operation,), (operation,) * 9, (0, operation), tuple(range(len(table[0])))):
                    self.assertEqual(kind.after(state, operations), after_by_hand(table, state, operations))
            for state in range(len(table)):
                reached = {state}
                for _ in table:
                    reached |= {pair[0] for each in reached for pair in table[each]}
                self.assertEqual(kind.states_from(state), tuple(sorted(reached)))

    def test_errors(self):
        kind = cell_kind(2)
        states, operations = not_numbers(0, 1), not_numbers(0, 2)
        self.checks_arguments(kind.step, (0, 0), ((InvalidNumber, states), (InvalidNumber, operations)))
        rows = wrong_where(lambda value: is_int_tuple(value) and all(0 <= part <= 2 for part in value),
                           (0, 3), [0, 1], (0, True), (0, -1))
        self.checks_arguments(kind.after, (0, (0,)), ((InvalidNumber, states), (InvalidOperation, rows)))
        self.checks_arguments(kind.states_from, (0,), ((InvalidNumber, states),))
        for value in [*WRONG, (0, 0), (1, 2), (2, 0), (0, 3), (True, 0), (0, False), [0, 0], (0, 0, 0)]:
            right = is_int_tuple(value) and len(value) == 2 and 0 <= value[0] < 2 and 0 <= value[1] < 3
            self.assertIs(value in kind, right)
        self.fails(TypeError, iter, kind)
        self.fails(TypeError, list, kind)

    def test_relabeled(self):
        for kind in drawn_kinds(12, 7):
            for states in orders(kind.states)[:24]:
                for operations in orders(kind.operations)[::3]:
                    other = kind.relabeled(states, operations)
                    for state, operation in product(range(kind.states), range(kind.operations)):
                        behind, answer = kind.step(state, operation)
                        self.assertEqual(other.step(states[state], operations[operation]), (states[behind], answer))
        kind = cell_kind(2)
        for states, operations in product(
            wrong_where(lambda value: value in ((0, 1), (1, 0)) and is_int_tuple(value), (True, 0), [0, 1]), [(0, 1, 2)],
        ):
            self.fails(InvalidOperation, kind.relabeled, states, operations)
        for value in wrong_where(lambda value: is_int_tuple(value) and value in orders(3), (0, 1, True), (0, 1, 1)):
            self.fails(InvalidOperation, kind.relabeled, (1, 0), value)

    def test_products(self):
        for one, other in product([*NAMED[:3], *drawn_kinds(5, 9)], [*NAMED[4:8], *drawn_kinds(6, 11)]):
            if one.states * other.states > 12:
                self.fails_keeping(TooMany, 12, one.__mul__, other)
            elif one.operations + other.operations > 8:
                self.fails_keeping(TooMany, 8, one.__mul__, other)
            else:
                both = one * other
                self.assertEqual(both.states, one.states * other.states)
                self.assertEqual(both.operations, one.operations + other.operations)
                for s, t in product(range(one.states), range(other.states)):
                    number = s * other.states + t
                    for operation in range(one.operations):
                        behind, answer = one.step(s, operation)
                        self.assertEqual(both.step(number, operation), (behind * other.states + t, answer))
                    for operation in range(other.operations):
                        behind, answer = other.step(t, operation)
                        self.assertEqual(
                            both.step(number, one.operations + operation), (s * other.states + behind, answer))
        self.fails_keeping(TooMany, 12, swap_kind(7).__mul__, swap_kind(7))
        self.fails_keeping(TooMany, 8, cell_kind(1).__mul__, sticky_kind(7))
        for value in wrong_where(lambda each: type(each) is Kind):
            with self.assertRaises(InvalidOperation):
                flag_kind() * value
            with self.assertRaises(InvalidOperation):
                value * flag_kind()

    def test_named_kinds(self):
        self.assertEqual(flag_kind().table, (((1, 0),), ((1, 1),)))
        for many in range(1, 13):
            kind = adder_kind(many)
            self.assertEqual((kind.states, kind.operations), (many, 1))
            self.assertEqual(kind.after(0, (0,) * (many + 1)), (1 % many, (*range(many), 0)))
        for many in range(1, 8):
            swap, cell, sticky = swap_kind(many), cell_kind(many), sticky_kind(many)
            self.assertEqual([(each.states, each.operations) for each in (swap, cell, sticky)],
                             [(many + 1, many), (many, many + 1), (many + 1, many)])
            for state, value in product(range(many + 1), range(many)):
                self.assertEqual(swap.step(state, value), (value + 1, state))
                self.assertEqual(sticky.step(state, value), (state, state) if state else (value + 1, value + 1))
                if state < many:
                    self.assertEqual((cell.step(state, value), cell.step(state, many)), ((value, 0), (state, state)))
        self.checks_arguments(adder_kind, (1,), ((InvalidNumber, not_numbers(1, 12)),))
        for named in (swap_kind, cell_kind, sticky_kind):
            self.checks_arguments(named, (1,), ((InvalidNumber, not_numbers(1, 7)),))

    def test_equality(self):
        for one, other in product(NAMED, NAMED):
            self.assertIs(one == other, one.table == other.table)
            self.assertIs(one != other, one.table != other.table)
        for value in WRONG:
            self.assertIs(flag_kind() == value, False)
        self.assertFalse(flag_kind() == flag_kind().table)
        self.assertTrue(Kind(flag_kind().table) == flag_kind())
        self.assertTrue(is_int(len(flag_kind())))
