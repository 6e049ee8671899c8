"""Middles: values that come near one another round by round."""

from poolmaps.base.checks import check_many, check_number
from poolmaps.base.pools import check_pool
from poolmaps.base.webs import MAX_THREADS
from poolmaps.errors import InvalidOperation, TooMany
from poolmaps.known.sights import check_row
from poolmaps.known.words import check_rounds, knowing_behind
from poolmaps.near.limits import binary_runs, check_binary_runs, check_most

MAX_BLOCK = 4
MAX_GONE = 200


def rootless(pool):
    """The least index of a web without a root, or None."""
    check_pool(pool)
    for index, web in enumerate(pool.webs):
        if not web.roots:
            return index
    return None


def near_ever(pool):
    """Whether there are near maps up to every number, each for some number of rounds."""
    return rootless(pool) is None


def halvings_to(most):
    """The least number of doublings that lead from 1 to at least this number."""
    many = 0
    while 1 << many < most:
        many += 1
    return many


def middle_rounds(size, most):
    """The number of rounds in which middles are near enough."""
    check_number(size, 1, MAX_THREADS)
    check_most(most)
    return (size - 1) * halvings_to(most)


def reduced(top, power):
    """The fraction top / 2 ** power in its lowest terms."""
    while power > 0 and top % 2 == 0:
        top = top // 2
        power -= 1
    return (top, power)


def greatest_power(fractions):
    """The greatest power of these fractions."""
    return max([power for _, power in fractions])


def tops_with(fractions, power):
    """The tops of these fractions when all have this power, which is at least as great as theirs."""
    return [top << (power - own) for top, own in fractions]


def middle_of(fractions):
    """The middle of the least and the greatest one of these fractions."""
    power = greatest_power(fractions)
    tops = tops_with(fractions, power)
    return reduced(min(tops) + max(tops), power + 1)


def spread_of(fractions):
    """The greatest one of these fractions less the least one."""
    power = greatest_power(fractions)
    tops = tops_with(fractions, power)
    return reduced(max(tops) - min(tops), power)


def values_after(values, knowing):
    """The values behind a block in which the threads came to know these."""
    return tuple([middle_of([values[other] for other in known]) for known in knowing])


def fraction_text(fraction):
    """A fraction as it is written."""
    top, power = fraction
    return f"{top}/{1 << power}" if power > 0 else str(top)


class Middles:
    """Threads that take the middle of the values of which they know, block by block."""

    def __init__(self, pool, row, *, block=1):
        check_pool(pool)
        check_row(row, pool.size)
        check_number(block, 1, MAX_BLOCK)
        self._pool = pool
        self._row = row
        self._block = block
        self._word = ()
        self._trail = [tuple([(entry, 0) for entry in row])]

    @property
    def fractions(self):
        """The values of all threads."""
        return self._trail[-1]

    @property
    def word(self):
        """The indices so far."""
        return self._word

    @property
    def blocks(self):
        """The number of whole blocks so far."""
        return len(self._word) // self._block

    @property
    def spread(self):
        """The greatest value less the least one."""
        return spread_of(self._trail[-1])

    @property
    def block(self):
        """The number of rounds of a block."""
        return self._block

    def go(self, index):
        """Does a round with this web, and tells the values then."""
        check_number(index, 0, len(self._pool) - 1)
        if len(self._word) == MAX_GONE:
            raise TooMany(MAX_GONE)
        self._word = (*self._word, index)
        if len(self._word) % self._block == 0:
            knowing = knowing_behind(self._pool, self._word[len(self._word) - self._block:])
            self._trail.append(values_after(self._trail[-1], knowing))
        return self.fractions

    def undo(self, *, many=1):
        """Takes rounds back, and tells the values then."""
        check_many(many, len(self._word))
        self._word = self._word[:len(self._word) - many]
        self._trail = self._trail[:self.blocks + 1]
        return self.fractions

    def twin(self):
        """An equal object with an equal past that goes on by itself."""
        twin = Middles(self._pool, self._row, block=self._block)
        twin._word = self._word
        twin._trail = list(self._trail)
        return twin

    def floors(self, most):
        """The greatest integers that are not greater than `most` times the values."""
        check_most(most)
        return tuple([most * top >> power for top, power in self._trail[-1]])

    def __len__(self):
        return len(self._word)

    def __eq__(self, other):
        return (
            isinstance(other, Middles) and self._pool == other._pool and self._row == other._row
            and self._block == other._block and self._word == other._word
        )

    def __str__(self):
        return f"{len(self._word)} rounds: {', '.join([fraction_text(value) for value in self._trail[-1]])}"


def floors_behind(pool, run, most):
    """The floors of the values of all threads at the end of a run, with blocks that let threads meet."""
    row, word = run
    middles = Middles(pool, row, block=max(1, pool.size - 1))
    for index in word:
        middles.go(index)
    return middles.floors(most)


def middle_map(pool, rounds, most):
    """The dict from all views to the floors of the middles, which is a near map."""
    check_rounds(pool, rounds)
    check_most(most)
    if not near_ever(pool) or rounds != middle_rounds(pool.size, most):
        raise InvalidOperation("some web has no root, or this is not the number of rounds")
    check_binary_runs(pool, rounds)
    outputs = {}
    for run, views in binary_runs(pool, rounds).items():
        for view, output in zip(views, floors_behind(pool, run, most)):
            outputs[view] = output
    return {view: outputs[view] for view in sorted(outputs)}
