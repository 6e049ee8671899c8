"""Names by order: what threads can be called by what they see of the order of the others."""

from math import comb, gcd

from poolmaps.base.checks import are_ascending, are_numbers, check_number, is_number
from poolmaps.base.pools import MAX_SNAP, MAX_WEBS, check_thread, snap_pool
from poolmaps.counts.signs import product_of_signs, signs_of
from poolmaps.errors import InvalidOperation, InvalidRule, InvalidWord, TooMany
from poolmaps.known.sights import (
    MAX_ROWS, all_rows, check_few_runs, check_few_words, is_row_tuple, sight_table, views_in_runs,
)
from poolmaps.known.words import all_words, check_word
from poolmaps.tasks.rules import Rule
from poolmaps.tasks.tasks import Task, check_few_rights

MAX_NAME = 99
MAX_NAMED = 8
MAX_COUNTED = 40


def told_rounds(pool, word, thread):
    """What a thread knows of the rounds, the last one first: pairs (thread, heard) of the signals that it knows."""
    rounds = []
    asked = [thread]
    for index in word[::-1]:
        web = pool.webs[index]
        pairs = [(each, web.signals[each][0]) for each in asked]
        rounds.append(pairs)
        asked = sorted({other for _, heard in pairs for other in heard})
    return rounds, asked


def numbered_pattern(rounds, thread, numbers):
    """The pattern of what a thread knows, with these numbers for the known threads."""
    rows = [
        tuple(sorted([(numbers[each], tuple(sorted([numbers[other] for other in heard]))) for each, heard in pairs]))
        for pairs in rounds
    ]
    return (numbers[thread], tuple(rows))


def pattern_behind(pool, word, thread, ranks):
    """The pattern of a thread behind a word, if the threads that it knows are numbered in the order of their ranks."""
    rounds, known = told_rounds(pool, word, thread)
    ordered = sorted([(ranks[each], each) for each in known])
    return numbered_pattern(rounds, thread, {each: number for number, (_, each) in enumerate(ordered)})


def pattern_of(size, word, thread):
    """The pattern of the thread behind the word."""
    pool = snap_pool(size)
    check_word(pool, word)
    check_thread(pool, thread)
    return pattern_behind(pool, word, thread, list(range(size)))


def patterns_in(pool, rounds):
    """A dict from the words of a snap pool with so many rounds to the patterns of all threads."""
    ranks = list(range(pool.size))
    told, kept = {}, {}
    for word, numbers in sight_table(pool, rounds).items():
        # A thread has one pattern behind all words behind which it has the same sight.
        for thread, number in enumerate(numbers):
            if (thread, number) not in kept:
                kept[(thread, number)] = pattern_behind(pool, word, thread, ranks)
        told[word] = tuple([kept[sight] for sight in enumerate(numbers)])
    return told


def patterns_by_word(pool, rounds):
    """A dict from the pairs (many, word), for this snap pool and those of fewer threads, to the patterns of all."""
    told = {}
    for many in range(1, pool.size + 1):
        for word, patterns_told in patterns_in(snap_pool(many) if many < pool.size else pool, rounds).items():
            told[(many, word)] = patterns_told
    return told


def pool_with_few_words(size, rounds):
    """The snap pool, behind the errors of a size and a number of rounds, and TooMany for too many words."""
    pool = snap_pool(size)
    check_few_words(pool, rounds)
    return pool


def patterns(size, rounds):
    """The ascending tuple of all patterns behind so many rounds in snap pools of at most so many threads."""
    by_word = patterns_by_word(pool_with_few_words(size, rounds), rounds)
    return tuple(sorted({pattern for told in by_word.values() for pattern in told}))


def has_truth(pattern):
    """Whether True or False stands somewhere in a value that is equal to a pattern."""
    # Integers and tuples of them have no letters in their texts.
    return "e" in repr(pattern)


def are_names(value, told):
    """Whether the value is a dict from just these patterns to names."""
    if not isinstance(value, dict) or len(value) != len(told):
        return False
    if not all([pattern in told and not has_truth(pattern) for pattern in value]):
        return False
    return all([is_number(name, 1, MAX_NAME) for name in value.values()])


class OrderRule:
    """A name for each pattern. Order rules never change."""

    def __init__(self, size, rounds, names):
        pool = pool_with_few_words(size, rounds)
        self._size = size
        self._rounds = rounds
        self._by_word = patterns_by_word(pool, rounds)
        told = {pattern: True for patterns_told in self._by_word.values() for pattern in patterns_told}
        if not are_names(names, told):
            raise InvalidRule("this is no dict from all patterns to names")
        self._names = {pattern: names[pattern] for pattern in sorted(names)}

    @property
    def size(self):
        """The greatest number of threads."""
        return self._size

    @property
    def rounds(self):
        """The number of rounds."""
        return self._rounds

    @property
    def names(self):
        """The dict from the patterns to their names."""
        return {pattern: name for pattern, name in self._names.items()}

    @property
    def greatest(self):
        """The greatest name."""
        return max(list(self._names.values()))

    def name_of(self, pattern):
        """The name of a pattern that is checked already."""
        return self._names[pattern]

    def has_word(self, many, word):
        """Whether the value is a word of the snap pool of so many threads with the rounds of the rule."""
        return are_numbers(word, 0, MAX_WEBS - 1) and (many, word) in self._by_word

    def names_in(self, many, word):
        """The names of the threads behind a word of the snap pool of so many threads."""
        check_number(many, 1, self._size)
        if not self.has_word(many, word):
            raise InvalidWord("this is no word of the snap pool with so many rounds")
        return tuple([self._names[pattern] for pattern in self._by_word[(many, word)]])

    def names_by_word(self):
        """A dict from the pairs (many, word) to the names of all threads."""
        return {
            key: tuple([self._names[pattern] for pattern in told]) for key, told in self._by_word.items()
        }

    def mapped(self, table):
        """The rule with other names, by a dict from just all names that it has."""
        there = sorted(set(list(self._names.values())))
        if not isinstance(table, dict) or not all([is_number(name, 1, MAX_NAME) for name in table]):
            raise InvalidOperation("this is no dict from the names of the rule")
        if sorted(table) != there or not all([is_number(name, 1, MAX_NAME) for name in table.values()]):
            raise InvalidOperation("this is no dict from just the names of the rule to names")
        return OrderRule(self._size, self._rounds, {
            pattern: table[name] for pattern, name in self._names.items()
        })

    def for_fewer(self, size):
        """The rule for snap pools of fewer threads."""
        check_number(size, 1, self._size)
        return OrderRule(size, self._rounds, {
            pattern: self._names[pattern] for pattern in patterns(size, self._rounds)
        })

    def __len__(self):
        return len(self._names)

    def __eq__(self, other):
        return (
            isinstance(other, OrderRule) and self._size == other._size and self._rounds == other._rounds
            and self._names == other._names
        )

    def __str__(self):
        return f"order rule of {self._size} threads, {self._rounds} rounds: names to {self.greatest}"


def check_order_rule(rule):
    """Raises InvalidRule for anything but an order rule."""
    if not isinstance(rule, OrderRule):
        raise InvalidRule("this is no order rule")


def rank_rule(size):
    """The order rule of one round that names a thread by how many it hears, and its place among them."""
    names = {}
    for own, rows in patterns(size, 1):
        heard = len(rows[0][0][1])
        names[(own, rows)] = heard * (heard - 1) // 2 + own + 1
    return OrderRule(size, 1, names)


def clash_in(names):
    """The first pair of threads with one name, or None."""
    for one, name in enumerate(names):
        for other in range(one + 1, len(names)):
            if names[other] == name:
                return (one, other)
    return None


def clash(rule):
    """Two threads that take one name behind a word, or None."""
    check_order_rule(rule)
    for key, names in rule.names_by_word().items():
        threads = clash_in(names)
        if threads is not None:
            return (*key, threads)
    return None


def is_unlike(rule):
    """Whether no two threads ever take one name."""
    return clash(rule) is None


def is_clash(rule, value):
    """Whether the value tells two threads that take one name behind a word."""
    check_order_rule(rule)
    if not isinstance(value, tuple) or len(value) != 3 or not is_number(value[0], 1, rule.size):
        return False
    many, word, threads = value
    if not rule.has_word(many, word):
        return False
    if not are_ascending(threads, 0, many - 1) or len(threads) != 2:
        return False
    names = rule.names_in(many, word)
    return names[threads[0]] == names[threads[1]]


def as_rule(rule, rows):
    """The rule for views in which threads are named by their patterns in the order of the inputs."""
    check_order_rule(rule)
    if not is_row_tuple(rows, rule.size) or not all([len(set(row)) == rule.size for row in rows]):
        raise InvalidOperation("these are not 1 to 64 ascending rows of unlike inputs")
    pool = snap_pool(rule.size)
    check_few_runs(pool, rule.rounds, len(rows))
    outputs = {}
    for run, views in views_in_runs(pool, rule.rounds, rows).items():
        row, word = run
        for view in views:
            if view not in outputs:
                outputs[view] = rule.name_of(pattern_behind(pool, word, view[0], row))
    return Rule(pool, rule.rounds, outputs)


def unlike_rows(size, parts):
    """The list of the rows of unlike numbers below `parts`, ascending."""
    return [row for row in all_rows(size, parts) if len(set(row)) == size]


def count_unlike_rows(size, parts):
    """The number of the rows of unlike numbers below `parts`."""
    many = 1
    for at in range(size):
        many = many * (parts - at)
    return many


def names_task(size, names, inputs):
    """The task of taking unlike names up to `names`, for all rows of unlike inputs below `inputs`."""
    check_number(size, 1, MAX_SNAP)
    check_number(names, size, MAX_NAMED)
    check_number(inputs, size, MAX_NAMED)
    if count_unlike_rows(size, inputs) > MAX_ROWS:
        raise TooMany(MAX_ROWS)
    check_few_rights(count_unlike_rows(size, names))
    rights = tuple([tuple([1 + part for part in row]) for row in unlike_rows(size, names)])
    return Task({row: rights for row in unlike_rows(size, inputs)})


def triangle_row(pool, rounds, names_by_word, group):
    """The totals of the signs of the words of a snap pool in which just the first k threads are marked."""
    signs = signs_of(pool)
    totals = [0] * (pool.size + 1)
    for word in all_words(pool, rounds):
        names = names_by_word[(pool.size, word)]
        marked = [thread for thread, name in enumerate(names) if name in group]
        if marked == list(range(len(marked))):
            totals[len(marked)] += product_of_signs(signs, word)
    return tuple(totals)


def triangle(rule, group):
    """The totals of signs by how many first threads are marked, for all numbers of threads."""
    check_order_rule(rule)
    if not are_ascending(group, 1, MAX_NAME):
        raise InvalidOperation("this is no ascending tuple of names")
    names_by_word = rule.names_by_word()
    rows = [
        triangle_row(snap_pool(many), rule.rounds, names_by_word, group) for many in range(1, rule.size + 1)
    ]
    return ((1,), *rows)


def common_factor(size, low, high):
    """The greatest common factor of the binomials of the size and the numbers from low to high."""
    factor = 0
    for many in range(max(0, low), min(size, high) + 1):
        factor = gcd(factor, comb(size, many))
    return factor


def barring_group(size, names):
    """The least size of a group of names for which the binomials have a common factor, or None."""
    check_number(size, 1, MAX_COUNTED)
    check_number(names, size, MAX_NAME)
    for marked in range(names + 1):
        if common_factor(size, size - names + marked, marked) > 1:
            return marked
    return None


def is_barred(size, names):
    """Whether so many names are too few for so many threads, by a common factor of binomials."""
    return barring_group(size, names) is not None
