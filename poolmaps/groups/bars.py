"""Heralds and bars: why agreement can be reached in a number of rounds, or cannot."""

from poolmaps.base.checks import are_numbers, check_number, is_pair
from poolmaps.base.pools import check_pool
from poolmaps.errors import InvalidOperation
from poolmaps.known.lots import lot_way, lots_of, words_on_way
from poolmaps.known.words import MAX_ROUNDS, check_rounds, is_word, known_table, known_to_all, knowing_behind

MAX_STEPS = 15000


def threads_for_all(pool, knowings):
    """The threads that all know in each of these cases."""
    everyone = [known_to_all(knowing) for knowing in knowings]
    return tuple([thread for thread in range(pool.size) if all([thread in known for known in everyone])])


def lots_with_heralds(pool, rounds):
    """The list of the pairs of a lot and the tuple of its heralds, for all lots in order."""
    lots = lots_of(pool, rounds)
    table = known_table(pool, rounds)
    return [(lot, threads_for_all(pool, [table[word] for word in lot])) for lot in lots]


def agree_in(pool, rounds):
    """Whether agreement can be reached in so many rounds."""
    return all([len(found) > 0 for _, found in lots_with_heralds(pool, rounds)])


def heralds(pool, rounds):
    """A herald for each lot, in the order of the lots."""
    pairs = lots_with_heralds(pool, rounds)
    if not all([len(found) > 0 for _, found in pairs]):
        raise InvalidOperation("some lot has no herald")
    return tuple([found[0] for _, found in pairs])


def are_heralds(pool, rounds, value):
    """Whether the value has a herald for each lot, in the order of the lots."""
    pairs = lots_with_heralds(pool, rounds)
    if not are_numbers(value, 0, pool.size - 1) or len(value) != len(pairs):
        return False
    return all([thread in found for thread, (_, found) in zip(value, pairs)])


def word_without(lot, table, thread):
    """The first word of the lot behind which some thread does not know this one."""
    return [word for word in lot if not all([thread in each for each in table[word]])][0]


def bar(pool, rounds):
    """A word, and a way along words behind which each thread is unknown to some thread."""
    barred = [lot for lot, found in lots_with_heralds(pool, rounds) if not found]
    if not barred:
        raise InvalidOperation("each lot has a herald")
    table = known_table(pool, rounds)
    stops = [word_without(barred[0], table, thread) for thread in range(pool.size)]
    way = ()
    for one, other in zip(stops, stops[1:]):
        way = way + lot_way(pool, one, other)
    return (stops[0], way)


def is_bar(pool, rounds, value):
    """Whether the value is a bar whose word has so many rounds."""
    check_rounds(pool, rounds)
    if not is_pair(value) or not is_word(pool, value[0]) or len(value[0]) != rounds:
        return False
    if not isinstance(value[1], tuple) or len(value[1]) > MAX_STEPS:
        return False
    words = words_on_way(pool, value[0], value[1])
    if words is None:
        return False
    different = {word: True for word in words}
    return not threads_for_all(pool, [knowing_behind(pool, word) for word in different])


def least_rounds(pool, *, most=3):
    """The least number of rounds up to `most` in which agreement can be reached, or None."""
    check_pool(pool)
    check_number(most, 0, MAX_ROUNDS)
    for rounds in range(most + 1):
        if agree_in(pool, rounds):
            return rounds
    return None
