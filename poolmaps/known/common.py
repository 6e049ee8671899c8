"""Events: what threads know of the word, and what they know of one another's knowing."""

from poolmaps.base.checks import check_number, is_climbing
from poolmaps.base.pools import check_thread
from poolmaps.errors import InvalidOperation, InvalidWord
from poolmaps.known.chains import bearers_of, reach
from poolmaps.known.lots import sight_labels
from poolmaps.known.sights import check_few_words, sight_table
from poolmaps.known.words import check_rounds, is_word

MAX_TIMES = 3000


def is_event(pool, rounds, value):
    """Whether the value is an event of words with so many rounds."""
    if not isinstance(value, tuple):
        return False
    return all([is_word(pool, word) and len(word) == rounds for word in value]) and is_climbing(value)


def check_event(pool, rounds, event):
    """The errors of pool, rounds and event, but for TooMany."""
    check_rounds(pool, rounds)
    if not is_event(pool, rounds, event):
        raise InvalidOperation("this is no event of words with so many rounds")


def knows(pool, rounds, event, thread):
    """The words behind which the thread knows the event."""
    check_event(pool, rounds, event)
    check_thread(pool, thread)
    check_few_words(pool, rounds)
    table = sight_table(pool, rounds)
    inside = {word: True for word in event}
    doubtful = {numbers[thread]: True for word, numbers in table.items() if word not in inside}
    return tuple([word for word in event if table[word][thread] not in doubtful])


def ends_outside(pool, rounds, event):
    """A dict from the words that chains of neighbors join with a word outside to how a shortest chain ends."""
    labels = sight_labels(pool, rounds)
    inside = {word: True for word in event}
    return reach(labels, bearers_of(labels), [word for word in labels if word not in inside])


def all_know(pool, rounds, event, times=1):
    """The words behind which all know the event, so many times over."""
    check_event(pool, rounds, event)
    check_number(times, 0, MAX_TIMES)
    check_few_words(pool, rounds)
    ends = ends_outside(pool, rounds, event)
    return tuple([word for word in event if word not in ends or ends[word][0] > times])


def commonly_known(pool, rounds, event):
    """The words behind which the event is commonly known."""
    check_event(pool, rounds, event)
    check_few_words(pool, rounds)
    ends = ends_outside(pool, rounds, event)
    return tuple([word for word in event if word not in ends])


def level(pool, rounds, event, word):
    """How many times over all know the event behind the word: None without an end, -1 outside of the event."""
    check_event(pool, rounds, event)
    if not is_word(pool, word) or len(word) != rounds:
        raise InvalidWord("this is no word with so many rounds")
    check_few_words(pool, rounds)
    ends = ends_outside(pool, rounds, event)
    return ends[word][0] - 1 if word in ends else None
