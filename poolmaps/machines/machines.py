"""Machines: states, moves by what is heard, and decisions; machines of rules, and rules of machines."""

from poolmaps.base.checks import are_all_numbers, are_numbers, check_number, is_climbing, is_number, is_pair
from poolmaps.base.pools import check_pool
from poolmaps.base.webs import MAX_MARK, MAX_THREADS, check_web
from poolmaps.errors import InvalidMachine, InvalidOperation, InvalidRow, InvalidRule, InvalidWord, TooMany
from poolmaps.known.sights import MAX_INPUT, check_few_words, sight_table, views_behind
from poolmaps.known.words import MAX_ROUNDS, is_word, known_table
from poolmaps.machines.views import counts_of_views, moves_of_views, states_of_views
from poolmaps.machines.walks import Walker
from poolmaps.tasks.rules import Rule
from poolmaps.tasks.tasks import MAX_OUTPUT

MAX_STATES = 3000
MAX_REACHED = 20000


def are_starts(value, size, states):
    """Whether the value is a dict from pairs (thread, input), with the same inputs for all threads, to states."""
    if not isinstance(value, dict) or not value:
        return False
    if not all([are_numbers(key, 0, MAX_INPUT) and len(key) == 2 and key[0] < size for key in value]):
        return False
    entries = sorted({entry for _, entry in value})
    return len(value) == size * len(entries) and are_states(value, states)


def are_states(value, states):
    """Whether all values of a dict are states."""
    return all([is_number(state, 0, states - 1) for state in value.values()])


def is_heard_state(value, size, states):
    """Whether the value is a pair of a thread and a state."""
    return is_pair(value) and is_number(value[0], 0, size - 1) and is_number(value[1], 0, states - 1)


def is_letter(value, size, states):
    """Whether the value is a letter of machines with so many threads and states."""
    if not isinstance(value, tuple) or len(value) != 4 or not isinstance(value[3], tuple):
        return False
    thread, state, mark, heard = value
    if not is_heard_state((thread, state), size, states) or not is_number(mark, 0, MAX_MARK):
        return False
    if not all([is_heard_state(pair, size, states) for pair in heard]):
        return False
    others = [pair[0] for pair in heard]
    return is_climbing(others) and thread not in others


def are_moves(value, size, states):
    """Whether the value is a dict from letters to states."""
    if not isinstance(value, dict) or not all([is_letter(letter, size, states) for letter in value]):
        return False
    return are_states(value, states)


def are_decisions(value, size, states):
    """Whether the value is a dict from pairs (thread, state) to outputs."""
    if not isinstance(value, dict) or not all([is_heard_state(key, size, states) for key in value]):
        return False
    return all([is_number(output, 0, MAX_OUTPUT) for output in value.values()])


def ascending_dict(table):
    """The dict with its keys ascending."""
    return {key: table[key] for key in sorted(table)}


def without_key(table, key):
    """The dict without one key."""
    return {each: told for each, told in table.items() if each != key}


def moved_letter(letter, numbers):
    """The letter in which each thread has its new number."""
    thread, state, mark, heard = letter
    return (numbers[thread], state, mark, tuple(sorted([(numbers[other], told) for other, told in heard])))


class Machine:
    """Threads with states, which change by what is heard. Machines never change."""

    def __init__(self, size, states, starts, moves, decisions):
        if not is_number(size, 1, MAX_THREADS) or not is_number(states, 1, MAX_STATES):
            raise InvalidMachine("these are no numbers of threads and states")
        if not are_starts(starts, size, states) or not are_moves(moves, size, states):
            raise InvalidMachine("these are no starts and moves")
        if not are_decisions(decisions, size, states):
            raise InvalidMachine("these are no decisions")
        self._size = size
        self._states = states
        self._starts = ascending_dict(starts)
        self._moves = ascending_dict(moves)
        self._decisions = ascending_dict(decisions)
        self._inputs = tuple(sorted({entry for _, entry in starts}))

    @property
    def size(self):
        """The number of threads."""
        return self._size

    @property
    def states(self):
        """The number of states."""
        return self._states

    @property
    def starts(self):
        """The dict from the pairs (thread, input) to states."""
        return {key: state for key, state in self._starts.items()}

    @property
    def moves(self):
        """The dict from letters to states."""
        return {letter: state for letter, state in self._moves.items()}

    @property
    def decisions(self):
        """The dict from pairs (thread, state) to outputs."""
        return {key: output for key, output in self._decisions.items()}

    @property
    def inputs(self):
        """The ascending tuple of the inputs for which there are starts."""
        return self._inputs

    def can_begin(self, row):
        """Whether the value is a row with which the machine can begin."""
        if not are_numbers(row, 0, MAX_INPUT) or len(row) != self._size:
            return False
        return all([entry in self._inputs for entry in row])

    def is_configuration(self, value):
        """Whether the value is a tuple of the states of all threads."""
        return are_numbers(value, 0, self._states - 1) and len(value) == self._size

    def check_configuration(self, value):
        """Raises InvalidOperation for anything but a configuration."""
        if not self.is_configuration(value):
            raise InvalidOperation("this is no configuration")

    def beginning(self, row):
        """The configuration with which the machine begins."""
        if not self.can_begin(row):
            raise InvalidRow("the machine cannot begin with this")
        return tuple([self._starts[key] for key in enumerate(row)])

    def letters(self, configuration, web):
        """The letters of all threads in a round with this web."""
        self.check_configuration(configuration)
        check_web(web, self._size)
        return tuple([
            (thread, state, web.marks[thread], tuple([(other, configuration[other]) for other in web.heard[thread]]))
            for thread, state in enumerate(configuration)
        ])

    def round_of(self, configuration, web):
        """The configuration behind a round with this web."""
        return tuple([self._moves.get(letter, letter[1]) for letter in self.letters(configuration, web)])

    def shown_at(self, configuration):
        """The outputs of all threads, None for a thread without one."""
        self.check_configuration(configuration)
        return tuple([self._decisions.get(key) for key in enumerate(configuration)])

    def with_move(self, letter, state):
        """The machine with one more move, or another one for the letter."""
        if not is_letter(letter, self._size, self._states):
            raise InvalidMachine("this is no letter")
        moves = self.moves
        moves[letter] = state
        return Machine(self._size, self._states, self._starts, moves, self._decisions)

    def without_move(self, letter):
        """The machine without the move for a letter."""
        if letter not in self:
            raise InvalidMachine("there is no move for this")
        return Machine(
            self._size, self._states, self._starts, without_key(self._moves, letter), self._decisions)

    def with_decision(self, thread, state, output):
        """The machine with one more decision, or another one for the state of the thread."""
        if not is_heard_state((thread, state), self._size, self._states):
            raise InvalidMachine("this is no thread with a state")
        decisions = self.decisions
        decisions[(thread, state)] = output
        return Machine(self._size, self._states, self._starts, self._moves, decisions)

    def without_decision(self, thread, state):
        """The machine without the decision for the state of the thread."""
        if not is_heard_state((thread, state), self._size, self._states) or (thread, state) not in self._decisions:
            raise InvalidMachine("there is no such decision")
        return Machine(
            self._size, self._states, self._starts, self._moves, without_key(self._decisions, (thread, state)))

    def renumbered(self, numbers):
        """The machine in which each thread has its new number."""
        if not are_all_numbers(numbers, self._size):
            raise InvalidOperation("the numbers are not a tuple with each thread once")
        return Machine(
            self._size, self._states,
            {(numbers[thread], entry): state for (thread, entry), state in self._starts.items()},
            {moved_letter(letter, numbers): state for letter, state in self._moves.items()},
            {(numbers[thread], state): output for (thread, state), output in self._decisions.items()},
        )

    def __call__(self, row, pool, word):
        configuration = self.beginning(row)
        check_pool(pool)
        if not is_word(pool, word):
            raise InvalidWord("this is no word of the pool")
        check_size(self, pool)
        for index in word:
            configuration = self.round_of(configuration, pool.webs[index])
        return configuration

    def __contains__(self, x):
        return is_letter(x, self._size, self._states) and x in self._moves

    def __len__(self):
        return len(self._moves)

    def __eq__(self, other):
        return (
            isinstance(other, Machine) and (self._size, self._states) == (other._size, other._states)
            and self._starts == other._starts and self._moves == other._moves
            and self._decisions == other._decisions
        )

    def __str__(self):
        return f"machine of {self._size} threads, {self._states} states, {len(self._moves)} moves"


def check_machine(machine):
    """Raises InvalidMachine for anything but a machine."""
    if not isinstance(machine, Machine):
        raise InvalidMachine("this is no machine")


def check_size(machine, pool):
    """Raises InvalidOperation for a machine and a pool of unlike sizes."""
    if machine.size != pool.size:
        raise InvalidOperation("the machine is for another number of threads")


def check_beginnings(machine, rows):
    """Raises InvalidOperation for anything but an ascending tuple of one or more rows to begin with."""
    plain = isinstance(rows, tuple) and len(rows) > 0 and all([machine.can_begin(row) for row in rows])
    if not plain or not is_climbing(rows):
        raise InvalidOperation("these are not one or more ascending rows with which the machine can begin")


def machine_of(rule):
    """A machine that does in so many rounds what the rule does: its states are the views of each thread."""
    if not isinstance(rule, Rule) or not rule.views:
        raise InvalidRule("this is no rule with views")
    entries = sorted({entry for view in rule.views for _, entry in view[2]})
    counts = counts_of_views(rule.pool, rule.rounds, len(entries))
    if max(counts) > MAX_STATES:
        raise TooMany(MAX_STATES)
    states = states_of_views(rule.pool, rule.rounds, entries)
    return Machine(
        rule.pool.size, max(counts),
        {(thread, entry): states[0][(thread, 0, ((thread, entry),))]
         for thread in range(rule.pool.size) for entry in entries},
        moves_of_views(rule.pool, rule.rounds, entries, states),
        {(view[0], states[rule.rounds][view]): output for view, output in rule.table.items()},
    )


def rule_of(machine, pool, rounds, rows):
    """The rule by which each thread has the output that the machine has behind so many rounds."""
    check_machine(machine)
    check_pool(pool)
    check_number(rounds, 0, MAX_ROUNDS)
    check_beginnings(machine, rows)
    check_size(machine, pool)
    check_few_words(pool, rounds)
    numbers, knowing = sight_table(pool, rounds), known_table(pool, rounds)
    walker = Walker(machine.moves, pool)
    outputs = {}
    for row in rows:
        for word, configuration in walker.behind_words(machine.beginning(row), rounds).items():
            for view, output in zip(views_behind(row, numbers[word], knowing[word]), machine.shown_at(configuration)):
                if output is None:
                    raise InvalidOperation("some thread has no output")
                outputs[view] = output
    return Rule(pool, rounds, outputs)
