"""Powers of pools: some rounds as one."""

from poolmaps.base.checks import check_number
from poolmaps.base.pools import MAX_WEBS, Pool, check_pool
from poolmaps.base.webs import Web
from poolmaps.errors import InvalidWord, TooMany
from poolmaps.known.sights import sight_table
from poolmaps.known.words import MAX_ROUNDS, check_rounds, count_words, is_word, known_table


def check_few_powers(pool, rounds):
    """Raises TooMany if there are more words of so many rounds than a pool has webs."""
    if count_words(pool, rounds) > MAX_WEBS:
        raise TooMany(MAX_WEBS)


def power_pool(pool, rounds):
    """The pool of the webs that tell what is known, and which sights there are, behind the words of so many rounds."""
    check_rounds(pool, rounds)
    check_few_powers(pool, rounds)
    knowing = known_table(pool, rounds)
    return Pool(tuple([
        Web(without_oneself(knowing[word]), numbers) for word, numbers in sight_table(pool, rounds).items()
    ]))


def without_oneself(knowing):
    """For each thread the other threads that it knows."""
    return tuple([tuple([other for other in known if other != thread]) for thread, known in enumerate(knowing)])


def check_at_least_one(rounds):
    """Raises InvalidNumber for anything but a number of rounds other than 0."""
    check_number(rounds, 1, MAX_ROUNDS)


def blocks_of_word(word, rounds):
    """The list of the blocks of so many rounds of a word."""
    return [word[at:at + rounds] for at in range(0, len(word), rounds)]


def place_of_word(word, many):
    """How many words of this length, of so many indices, come ahead of this one."""
    place = 0
    for index in word:
        place = place * many + index
    return place


def power_word(pool, rounds, word):
    """The word of the power for a word of the pool."""
    check_pool(pool)
    check_at_least_one(rounds)
    if not is_word(pool, word) or len(word) % rounds > 0:
        raise InvalidWord("this is no word of the pool whose length is a multiple of the rounds")
    check_few_powers(pool, rounds)
    return tuple([place_of_word(block, len(pool)) for block in blocks_of_word(word, rounds)])
