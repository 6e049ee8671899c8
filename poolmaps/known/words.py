"""Words of rounds, and whom the threads know behind them."""

from poolmaps.base.checks import are_numbers, check_number
from poolmaps.base.pools import check_pool, check_thread
from poolmaps.errors import InvalidWord

MAX_ROUNDS = 6


def is_word(pool, value):
    """Whether the value is a word of the pool."""
    check_pool(pool)
    return are_numbers(value, 0, len(pool) - 1) and len(value) <= MAX_ROUNDS


def check_word(pool, word):
    """Raises InvalidPool, or InvalidWord for anything but a word of the pool."""
    if not is_word(pool, word):
        raise InvalidWord("this is no word of the pool")


def check_rounds(pool, rounds):
    """Raises InvalidPool, or InvalidNumber for anything but a number of rounds."""
    check_pool(pool)
    check_number(rounds, 0, MAX_ROUNDS)


def all_words(pool, rounds):
    """The words with so many rounds, ascending, each one made when it is asked for."""
    check_rounds(pool, rounds)
    word = [0] * rounds
    place = 0
    while place >= 0:
        yield tuple(word)
        place = rounds - 1
        while place >= 0 and word[place] == len(pool) - 1:
            word[place] = 0
            place -= 1
        if place >= 0:
            word[place] += 1


def count_words(pool, rounds):
    """The number of words with so many rounds."""
    check_rounds(pool, rounds)
    many = 1
    for _ in range(rounds):
        many = many * len(pool)
    return many


def knowing_at_first(pool):
    """Whom the threads know behind no rounds: each one itself."""
    return tuple([(thread,) for thread in range(pool.size)])


def known_together(heard, earlier):
    """Whom these threads knew, all together."""
    return tuple(sorted({each for other in heard for each in earlier[other]}))


def knowing_after(web, earlier):
    """Whom the threads know behind one more round with this web."""
    return tuple([known_together(heard, earlier) for heard, _ in web.signals])


def knowings_after(pool, earlier):
    """The list of whom the threads know behind one more round, for each web of the pool."""
    kept = {}
    for web in pool.webs:
        for heard, _ in web.signals:
            if heard not in kept:
                kept[heard] = known_together(heard, earlier)
    return [tuple([kept[signal[0]] for signal in web.signals]) for web in pool.webs]


def knowing_behind(pool, word):
    """Whom the threads know behind a word of the pool."""
    knowing = knowing_at_first(pool)
    for index in word:
        knowing = knowing_after(pool.webs[index], knowing)
    return knowing


def known_to_all(knowing):
    """The threads that every thread knows."""
    return tuple([thread for thread in range(len(knowing)) if all([thread in each for each in knowing])])


def known_table(pool, rounds):
    """A dict from all words with so many rounds to whom the threads know behind them."""
    table = {(): knowing_at_first(pool)}
    behind = {}
    for _ in range(rounds):
        longer = {}
        for word, knowing in table.items():
            # Whom threads know is the same behind many words.
            if knowing not in behind:
                behind[knowing] = knowings_after(pool, knowing)
            for index, told in enumerate(behind[knowing]):
                key = (*word, index)
                longer[key] = told
        table = longer
    return table


def known(pool, word):
    """For each thread the threads that it knows behind the word."""
    check_word(pool, word)
    return knowing_behind(pool, word)


def known_by_everyone(pool, word):
    """The threads that every thread knows behind the word."""
    check_word(pool, word)
    return known_to_all(knowing_behind(pool, word))


def known_since(pool, word, thread, other):
    """The least number of first rounds behind which the thread knows the other one, or None."""
    check_word(pool, word)
    check_thread(pool, thread)
    check_thread(pool, other)
    for rounds in range(len(word) + 1):
        if other in knowing_behind(pool, word[:rounds])[thread]:
            return rounds
    return None
