"""Kinds of objects: what their operations answer, and to which states they lead."""

from poolmaps.base.checks import are_all_numbers, are_numbers, check_number, is_number, is_pair
from poolmaps.errors import InvalidKind, InvalidOperation, TooMany

MAX_STATES = 12
MAX_OPERATIONS = 8
MAX_ANSWER = 99
MAX_VALUES = 7


def is_entry(value, states):
    """Whether the value is a pair of one of so many states and an answer."""
    return is_pair(value) and is_number(value[0], 0, states - 1) and is_number(value[1], 0, MAX_ANSWER)


def are_entries(value, states):
    """Whether the value is a tuple of one to eight such pairs."""
    if not isinstance(value, tuple) or not 1 <= len(value) <= MAX_OPERATIONS:
        return False
    return all([is_entry(entry, states) for entry in value])


def is_kind_table(value):
    """Whether the value is the table of a kind."""
    if not isinstance(value, tuple) or not 1 <= len(value) <= MAX_STATES:
        return False
    if not all([are_entries(entries, len(value)) for entries in value]):
        return False
    return all([len(entries) == len(value[0]) for entries in value])


class Kind:
    """What the operations on an object do in each state. Kinds never change."""

    def __init__(self, table):
        if not is_kind_table(table):
            raise InvalidKind("this is no table of states and operations")
        self._table = table

    @property
    def table(self):
        """For each state the pairs (next, answer) of all operations."""
        return self._table

    @property
    def states(self):
        """The number of states."""
        return len(self._table)

    @property
    def operations(self):
        """The number of operations."""
        return len(self._table[0])

    @property
    def answers(self):
        """The ascending tuple of the answers that occur."""
        return tuple(sorted({answer for entries in self._table for _, answer in entries}))

    def step(self, state, operation):
        """The pair (next, answer) of an operation in a state."""
        check_number(state, 0, len(self._table) - 1)
        check_number(operation, 0, len(self._table[0]) - 1)
        return self._table[state][operation]

    def after(self, state, operations):
        """The state behind some operations, done one after the other, and the tuple of their answers."""
        check_number(state, 0, len(self._table) - 1)
        if not are_numbers(operations, 0, len(self._table[0]) - 1):
            raise InvalidOperation("this is no tuple of operations of the kind")
        answers = []
        for operation in operations:
            state, answer = self._table[state][operation]
            answers.append(answer)
        return (state, tuple(answers))

    def states_from(self, state):
        """The ascending tuple of the states to which operations lead from this one, itself included."""
        check_number(state, 0, len(self._table) - 1)
        reached = {state: True}
        queue = [state]
        at = 0
        while at < len(queue):
            entries = self._table[queue[at]]
            at += 1
            for behind, _ in entries:
                if behind not in reached:
                    reached[behind] = True
                    queue.append(behind)
        return tuple(sorted(reached))

    def relabeled(self, states, operations):
        """The kind in which each state and each operation has its new number."""
        if not are_all_numbers(states, len(self._table)) or not are_all_numbers(operations, len(self._table[0])):
            raise InvalidOperation("these are not tuples of all states, and of all operations")
        table = [[None] * len(operations) for _ in states]
        for state, entries in enumerate(self._table):
            for operation, (behind, answer) in enumerate(entries):
                table[states[state]][operations[operation]] = (states[behind], answer)
        return Kind(tuple([tuple(entries) for entries in table]))

    def __mul__(self, other):
        if not isinstance(other, Kind):
            raise InvalidOperation("the other operand is no kind")
        check_few_parts(len(self._table) * len(other._table), len(self._table[0]) + len(other._table[0]))
        return Kind(tuple([
            side_by_side(first, second, one, two, len(other._table))
            for one, first in enumerate(self._table) for two, second in enumerate(other._table)
        ]))

    def __rmul__(self, other):
        raise InvalidOperation("the other operand is no kind")

    def __contains__(self, x):
        return (
            is_pair(x) and is_number(x[0], 0, len(self._table) - 1) and is_number(x[1], 0, len(self._table[0]) - 1)
        )

    def __len__(self):
        return len(self._table)

    def __eq__(self, other):
        return isinstance(other, Kind) and self._table == other._table

    def __str__(self):
        return f"kind of {len(self._table)} states, {len(self._table[0])} operations"


def check_few_parts(states, operations):
    """Raises TooMany for too many states, or operations."""
    if states > MAX_STATES:
        raise TooMany(MAX_STATES)
    if operations > MAX_OPERATIONS:
        raise TooMany(MAX_OPERATIONS)


def side_by_side(first, second, one, two, many):
    """The pairs of all operations in the states one and two of two kinds, of which the other one has so many states."""
    mine = [(behind * many + two, answer) for behind, answer in first]
    theirs = [(one * many + behind, answer) for behind, answer in second]
    return (*mine, *theirs)


def check_kind(kind):
    """Raises InvalidKind for anything but a kind."""
    if not isinstance(kind, Kind):
        raise InvalidKind("this is no kind")


def flag_kind():
    """A flag: one operation makes it 1, and answers what it was."""
    return Kind((((1, 0),), ((1, 1),)))


def adder_kind(states):
    """An adder: one operation adds 1, or begins again, and answers the old state."""
    check_number(states, 1, MAX_STATES)
    return Kind(tuple([(((state + 1) % states, state),) for state in range(states)]))


def swap_kind(values):
    """A swap: an operation for each value puts it in, and answers the old state."""
    check_number(values, 1, MAX_VALUES)
    return Kind(tuple([
        tuple([(value + 1, state) for value in range(values)]) for state in range(values + 1)
    ]))


def cell_kind(values):
    """A cell: an operation for each value writes it, and one more reads."""
    check_number(values, 1, MAX_VALUES)
    return Kind(tuple([
        (*[(value, 0) for value in range(values)], (state, state)) for state in range(values)
    ]))


def sticky_kind(values):
    """A sticky one: an operation for each value puts it in if nothing is there, and answers what is there then."""
    check_number(values, 1, MAX_VALUES)
    empty = tuple([(value + 1, value + 1) for value in range(values)])
    return Kind((empty, *[((state, state),) * values for state in range(1, values + 1)]))
