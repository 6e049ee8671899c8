"""Runs of machines, the letters that are met, and runs that part two machines."""

from poolmaps.base.checks import check_many, check_number
from poolmaps.base.pools import check_pool
from poolmaps.errors import InvalidRow
from poolmaps.known.words import check_word
from poolmaps.machines.machines import MAX_REACHED, check_beginnings, check_machine, check_size
from poolmaps.machines.walks import PairWalker, Walker, word_to


def output_text(output):
    """The text of an output, or of none."""
    return "none" if output is None else str(output)


class MachineRun:
    """A machine that works round by round, and can be taken back."""

    def __init__(self, machine, pool, row):
        check_machine(machine)
        check_pool(pool)
        if not machine.can_begin(row):
            raise InvalidRow("the machine cannot begin with this")
        check_size(machine, pool)
        self._machine = machine
        self._pool = pool
        self._row = row
        self._word = ()
        self._trail = (machine.beginning(row),)

    @property
    def machine(self):
        """The machine."""
        return self._machine

    @property
    def pool(self):
        """The pool of the webs."""
        return self._pool

    @property
    def row(self):
        """The row with which it began."""
        return self._row

    @property
    def word(self):
        """The indices of the rounds so far."""
        return self._word

    @property
    def configuration(self):
        """The states of all threads."""
        return self._trail[-1]

    @property
    def shown(self):
        """The outputs of all threads, None for a thread without one."""
        return self._machine.shown_at(self._trail[-1])

    @property
    def trail(self):
        """The configurations from the first one to this one."""
        return self._trail

    def go(self, index):
        """Plays a round with this web, and tells the threads whose outputs are others than before."""
        check_number(index, 0, len(self._pool) - 1)
        before = self.shown
        self._trail = (*self._trail, self._machine.round_of(self._trail[-1], self._pool.webs[index]))
        self._word = (*self._word, index)
        return tuple([
            thread for thread, (elder, output) in enumerate(zip(before, self.shown)) if elder != output
        ])

    def play(self, word):
        """Plays the rounds of a word, and returns the run itself."""
        check_word(self._pool, word)
        for index in word:
            self.go(index)
        return self

    def undo(self, *, many=1):
        """Takes the last rounds back, and tells their indices, the last one first."""
        check_many(many, len(self._word))
        kept = len(self._word) - many
        gone = self._word[kept:][::-1]
        self._word = self._word[:kept]
        self._trail = self._trail[:kept + 1]
        return gone

    def twin(self):
        """An equal run that goes on by itself."""
        twin = MachineRun(self._machine, self._pool, self._row)
        twin._word = self._word
        twin._trail = self._trail
        return twin

    def __iter__(self):
        return iter(self._trail)

    def __len__(self):
        return len(self._word)

    def __eq__(self, other):
        return (
            isinstance(other, MachineRun) and self._machine == other._machine and self._pool == other._pool
            and self._row == other._row and self._word == other._word
        )

    def __str__(self):
        return f"run of {len(self._word)} rounds: {outputs_text(self.shown)}"


def outputs_text(outputs):
    """The texts of outputs with blanks between them."""
    return " ".join([output_text(output) for output in outputs])


def met_letters(machine, pool, rows):
    """The ascending tuple of all letters that come in runs of any length from these rows."""
    check_machine(machine)
    check_pool(pool)
    check_beginnings(machine, rows)
    check_size(machine, pool)
    walker = Walker(machine.moves, pool)
    met = {}
    for row in rows:
        start = machine.beginning(row)
        # What is reached from a configuration that was reached before is no news, and not more.
        if start not in met:
            for configuration in walker.reached_from(start, MAX_REACHED):
                met[configuration] = True
    return tuple(sorted({
        letter for configuration in met for letters in walker.letters_at(configuration) for letter in letters
    }))


def first_parting(one, other, reached):
    """The first pair of configurations with unlike outputs, or None."""
    for pair in reached:
        if one.shown_at(pair[0]) != other.shown_at(pair[1]):
            return pair
    return None


def parting_run(one, other, pool, rows):
    """A shortest run from one of the rows behind which two machines have unlike outputs, or None."""
    check_machine(one)
    check_machine(other)
    check_pool(pool)
    check_beginnings(one, rows)
    check_beginnings(other, rows)
    check_size(one, pool)
    walker = PairWalker(one.moves, other.moves, pool)
    shortest = None
    for row in rows:
        reached = walker.reached_from((one.beginning(row), other.beginning(row)), MAX_REACHED)
        pair = first_parting(one, other, reached)
        if pair is not None:
            word = word_to(reached, pair)
            if shortest is None or len(word) < len(shortest[1]):
                shortest = (row, word)
    return shortest
