"""Lots: words that chains of equal sights join, and ways along these chains."""

from poolmaps.base.checks import is_number, is_pair
from poolmaps.errors import InvalidOperation
from poolmaps.known.chains import class_of, classes_of, shortest_chain
from poolmaps.known.sights import check_few_words, has_same_sight, sight_table
from poolmaps.known.words import check_word, is_word


def sight_labels(pool, rounds):
    """A dict from the words with so many rounds to the lists of the pairs (thread, number of its sight)."""
    return {word: list(enumerate(numbers)) for word, numbers in sight_table(pool, rounds).items()}


def lots_of(pool, rounds):
    """The ascending tuple of all lots of words with so many rounds."""
    check_few_words(pool, rounds)
    return classes_of(sight_labels(pool, rounds))


def lot_of(pool, word):
    """The lot with the word."""
    check_word(pool, word)
    check_few_words(pool, len(word))
    return class_of(sight_labels(pool, len(word)), word)


def check_ends(pool, one, other):
    """The errors of what tells or judges a way between two words."""
    check_word(pool, one)
    check_word(pool, other)
    check_few_words(pool, len(one))


def lot_way(pool, one, other):
    """A shortest way from one word to the other one."""
    check_ends(pool, one, other)
    way = shortest_chain(sight_labels(pool, len(one)), one, other)
    if way is None:
        raise InvalidOperation("the words are not in one lot")
    return way


def is_way_step(pool, word, value):
    """Whether the value is a step of a way from this word."""
    if not is_pair(value) or not is_number(value[0], 0, pool.size - 1) or not is_word(pool, value[1]):
        return False
    return has_same_sight(pool, value[0], word, value[1])


def words_on_way(pool, word, value):
    """The list of the words on a way that begins with this word, or None if the value is no way."""
    if not isinstance(value, tuple):
        return None
    words = [word]
    for step in value:
        if not is_way_step(pool, words[-1], step):
            return None
        words.append(step[1])
    return words


def is_lot_way(pool, one, other, value):
    """Whether the value is a way from one word to the other one."""
    check_ends(pool, one, other)
    words = words_on_way(pool, one, value)
    return words is not None and words[-1] == other
