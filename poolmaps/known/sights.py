"""Sights and views: all that threads know behind words and runs."""

from poolmaps.base.checks import are_numbers, is_climbing, is_pair
from poolmaps.base.pools import check_pool, check_thread
from poolmaps.errors import InvalidOperation, InvalidRow, InvalidWord, TooMany
from poolmaps.known.words import check_rounds, check_word, count_words, is_word, known_table, knowing_behind

MAX_WORDS = 3000
MAX_RUNS = 4000
MAX_ROWS = 64
MAX_INPUT = 9


def check_few_words(pool, rounds):
    """The errors of pool and rounds, and TooMany if more words of this length are to be gone through."""
    if count_words(pool, rounds) > MAX_WORDS:
        raise TooMany(MAX_WORDS)


def is_row(value, size):
    """Whether the value is a row for so many threads."""
    return are_numbers(value, 0, MAX_INPUT) and len(value) == size


def is_row_tuple(value, size):
    """Whether the value is an ascending tuple of 1 to 64 rows."""
    if not isinstance(value, tuple) or not 1 <= len(value) <= MAX_ROWS:
        return False
    return all([is_row(row, size) for row in value]) and is_climbing(value)


def check_row(row, size):
    """Raises InvalidRow for anything but a row for so many threads."""
    if not is_row(row, size):
        raise InvalidRow("this is no row for so many threads")


def count_rows(size, values):
    """The number of the rows of inputs below `values`."""
    many = 1
    for _ in range(size):
        many = many * values
    return many


def all_rows(size, values):
    """The list of the rows of inputs below `values`, ascending."""
    rows = [()]
    for _ in range(size):
        rows = [(*row, entry) for row in rows for entry in range(values)]
    return rows


def is_run(pool, value):
    """Whether the value is a pair of a row and a word of the pool."""
    return is_pair(value) and is_row(value[0], pool.size) and is_word(pool, value[1])


def numbers_after(seen, web, earlier):
    """The numbers of the sights behind one more round; new sights are added to those seen."""
    numbers = []
    for thread, signal in enumerate(web.signals):
        sight = (signal, tuple([earlier[other] for other in signal[0]]))
        numbers.append(seen[thread].setdefault(sight, len(seen[thread])))
    return tuple(numbers)


def longer_table(pool, table):
    """The table of sights behind one round more than in this one."""
    seen = [{} for _ in range(pool.size)]
    longer = {}
    for word, numbers in table.items():
        for index, web in enumerate(pool.webs):
            key = (*word, index)
            longer[key] = numbers_after(seen, web, numbers)
    return longer


def sight_table(pool, rounds):
    """A dict from all words with so many rounds to the numbers of the sights, without a limit."""
    table = {(): (0,) * pool.size}
    for _ in range(rounds):
        table = longer_table(pool, table)
    return table


def sight_numbers(pool, rounds):
    """A dict from the words with so many rounds to the numbers of all threads' sights behind them."""
    check_few_words(pool, rounds)
    return sight_table(pool, rounds)


def sight_counts(pool, rounds):
    """For each thread the number of its different sights behind so many rounds."""
    table = sight_numbers(pool, rounds)
    return tuple([max([numbers[thread] for numbers in table.values()]) + 1 for thread in range(pool.size)])


def signals_at(pool, word, place):
    """The signals in one round of a word."""
    return pool.webs[word[place]].signals


def found_difference(pool, thread, one, other):
    """A difference of two words of one length, or None if the sights are the same."""
    ways = {thread: (thread,)}
    for place in range(len(one) - 1, -1, -1):
        first, second = signals_at(pool, one, place), signals_at(pool, other, place)
        farther = {}
        for asked, way in ways.items():
            if first[asked] != second[asked]:
                return way
            for heard in first[asked][0]:
                farther.setdefault(heard, (*way, heard))
        ways = farther
    return None


def has_same_sight(pool, thread, one, other):
    """Whether the sights are the same, for arguments that are checked already."""
    return len(one) == len(other) and found_difference(pool, thread, one, other) is None


def check_two_words(pool, thread, one, other):
    """The errors of what compares the sights of a thread behind two words."""
    check_pool(pool)
    check_thread(pool, thread)
    check_word(pool, one)
    check_word(pool, other)


def same_sight(pool, thread, one, other):
    """Whether the thread has the same sight behind both words."""
    check_two_words(pool, thread, one, other)
    return has_same_sight(pool, thread, one, other)


def difference(pool, thread, one, other):
    """Threads that ask one another back to a signal that tells the words apart."""
    check_two_words(pool, thread, one, other)
    way = found_difference(pool, thread, one, other) if len(one) == len(other) else None
    if way is None:
        raise InvalidOperation("the words have different lengths, or the sights are the same")
    return way


def is_difference(pool, thread, one, other, value):
    """Whether the value is a difference of both words for the thread."""
    check_two_words(pool, thread, one, other)
    if not are_numbers(value, 0, pool.size - 1) or len(one) != len(other):
        return False
    if not 1 <= len(value) <= len(one) or value[0] != thread:
        return False
    place = len(one) - 1
    for asked, heard in zip(value, value[1:]):
        in_one, in_other = signals_at(pool, one, place)[asked], signals_at(pool, other, place)[asked]
        if heard not in in_one[0] or heard not in in_other[0]:
            return False
        place -= 1
    return signals_at(pool, one, place)[value[-1]] != signals_at(pool, other, place)[value[-1]]


def views_behind(row, numbers, knowing):
    """The views of all threads, by the row, the numbers of their sights and whom they know."""
    return tuple([
        (thread, number, tuple([(each, row[each]) for each in knowing[thread]]))
        for thread, number in enumerate(numbers)
    ])


def known_by_sight(numbers, knowing):
    """A dict from the pairs (thread, number of a sight) to the threads that are known with this sight."""
    return {
        (thread, number): knowing[word][thread]
        for word, told in numbers.items() for thread, number in enumerate(told)
    }


def are_inputs(value, threads):
    """Whether the value is a tuple of pairs of just these threads, in their order, and their inputs."""
    if not isinstance(value, tuple) or not all([is_pair(part) and are_numbers(part, 0, MAX_INPUT) for part in value]):
        return False
    return tuple([part[0] for part in value]) == threads


def is_view(value, known_by):
    """Whether the value is a view with one of the sights in this dict, and any inputs."""
    if not isinstance(value, tuple) or len(value) != 3 or not are_numbers(value[:2], 0, MAX_WORDS):
        return False
    return value[:2] in known_by and are_inputs(value[2], known_by[value[:2]])


def check_few_runs(pool, rounds, rows):
    """The errors of pool and rounds, and TooMany for too many words, or runs with so many rows."""
    check_few_words(pool, rounds)
    if count_words(pool, rounds) * rows > MAX_RUNS:
        raise TooMany(MAX_RUNS)


def views_in_runs(pool, rounds, rows):
    """A dict from all runs with so many rounds and these rows, ascending, to the views in them."""
    numbers, knowing = sight_table(pool, rounds), known_table(pool, rounds)
    return {(row, word): views_behind(row, numbers[word], knowing[word]) for row in rows for word in numbers}


def run_views(pool, run):
    """The views of all threads in a run that is checked already."""
    row, word = run
    check_few_words(pool, len(word))
    return views_behind(row, sight_table(pool, len(word))[word], knowing_behind(pool, word))


def check_run(pool, run):
    """Raises InvalidPool, or InvalidWord for anything but a run of the pool."""
    check_pool(pool)
    if not is_run(pool, run):
        raise InvalidWord("this is no pair of a row and a word of the pool")


def view_of(pool, run, thread):
    """The view of the thread in the run."""
    check_run(pool, run)
    check_thread(pool, thread)
    return run_views(pool, run)[thread]


def views_of(pool, run):
    """The views of all threads in the run."""
    check_run(pool, run)
    return run_views(pool, run)


def all_views(pool, rounds, rows):
    """The ascending tuple of the views of all runs with so many rounds and these rows."""
    check_rounds(pool, rounds)
    if not is_row_tuple(rows, pool.size):
        raise InvalidOperation("these are not 1 to 64 ascending rows")
    check_few_runs(pool, rounds, len(rows))
    runs = views_in_runs(pool, rounds, rows)
    return tuple(sorted({view for views in runs.values() for view in views}))
