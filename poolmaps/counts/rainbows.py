"""Choices of known threads, and the words behind which all threads are picked."""

from poolmaps.base.checks import are_numbers, check_number, is_number
from poolmaps.base.pools import MAX_SNAP, snap_pool
from poolmaps.counts.signs import product_of_signs, signs_of
from poolmaps.errors import InvalidNumber, InvalidOperation, InvalidRule, InvalidWord
from poolmaps.known.sights import MAX_WORDS, check_few_words, known_by_sight, sight_table, views_behind
from poolmaps.known.words import is_word, known_table
from poolmaps.tasks.rules import check_rule


def are_picks(value, known_by):
    """Whether the value is a dict from just these sights to threads that are known with them."""
    if not isinstance(value, dict) or len(value) != len(known_by):
        return False
    if not all([are_numbers(key, 0, MAX_WORDS) and key in known_by for key in value]):
        return False
    return all([is_number(picked, 0, MAX_SNAP - 1) and picked in known_by[key] for key, picked in value.items()])


class Choice:
    """A thread that is picked for each sight, among those that are known with it. Choices never change."""

    def __init__(self, size, rounds, picks):
        pool = snap_pool(size)
        check_few_words(pool, rounds)
        self._pool = pool
        self._rounds = rounds
        self._numbers = sight_table(pool, rounds)
        self._known_by = known_by_sight(self._numbers, known_table(pool, rounds))
        if not are_picks(picks, self._known_by):
            raise InvalidRule("this is no dict from all sights to known threads")
        self._picks = {key: picks[key] for key in sorted(picks)}

    @property
    def size(self):
        """The number of threads."""
        return self._pool.size

    @property
    def rounds(self):
        """The number of rounds."""
        return self._rounds

    @property
    def picks(self):
        """The dict from the pairs (thread, number of a sight) to the picked threads."""
        return {key: picked for key, picked in self._picks.items()}

    def picks_behind(self, numbers):
        """What the threads pick that have sights with these numbers."""
        return tuple([self._picks[key] for key in enumerate(numbers)])

    def picked_by(self, word):
        """What the threads pick behind the word."""
        if not is_word(self._pool, word) or len(word) != self._rounds:
            raise InvalidWord("this is no word of the snap pool with so many rounds")
        return self.picks_behind(self._numbers[word])

    def picks_by_word(self):
        """A dict from all words to what the threads pick behind them."""
        return {word: self.picks_behind(numbers) for word, numbers in self._numbers.items()}

    def total(self):
        """The total, over all rainbows, of the signs of their words and permutations."""
        signs = signs_of(self._pool)
        return sum([
            product_of_signs(signs, word) * permutation_sign(picked)
            for word, picked in self.picks_by_word().items() if is_permutation(picked)
        ])

    def with_pick(self, thread, number, picked):
        """The choice with another pick for a sight."""
        check_number(thread, 0, self._pool.size - 1)
        if not is_number(number, 0, MAX_WORDS) or (thread, number) not in self._known_by:
            raise InvalidNumber(number)
        if not is_number(picked, 0, MAX_SNAP - 1) or picked not in self._known_by[(thread, number)]:
            raise InvalidOperation("the thread does not know this one with this sight")
        return Choice(self._pool.size, self._rounds, {**self._picks, (thread, number): picked})

    def __len__(self):
        return len(self._picks)

    def __eq__(self, other):
        return (
            isinstance(other, Choice) and self._pool == other._pool and self._rounds == other._rounds
            and self._picks == other._picks
        )

    def __str__(self):
        return f"choice of {self._pool.size} threads, {self._rounds} rounds: {len(self._picks)} sights"


def check_choice(choice):
    """Raises InvalidRule for anything but a choice."""
    if not isinstance(choice, Choice):
        raise InvalidRule("this is no choice")


def is_permutation(picked):
    """Whether each thread is picked once."""
    return sorted(picked) == list(range(len(picked)))


def permutation_sign(picked):
    """The sign of the permutation that leads each thread to what it picks."""
    sign = 1
    for at, one in enumerate(picked):
        for other in picked[at + 1:]:
            if other < one:
                sign = -sign
    return sign


def rainbows(choice):
    """The ascending tuple of all words behind which each thread is picked by some thread."""
    check_choice(choice)
    return tuple([word for word, picked in choice.picks_by_word().items() if is_permutation(picked)])


def rainbow(choice):
    """A word behind which each thread is picked by some thread."""
    return rainbows(choice)[0]


def is_rainbow(choice, value):
    """Whether the value is a word behind which each thread is picked by some thread."""
    check_choice(choice)
    words = choice.picks_by_word()
    if not are_numbers(value, 0, MAX_WORDS) or value not in words:
        return False
    return is_permutation(words[value])


def rainbow_total(choice):
    """The total of the signs of all rainbows and of their permutations."""
    check_choice(choice)
    return choice.total()


def picked_numbers(choice):
    """The ascending tuple of how many different threads are picked, for all words."""
    check_choice(choice)
    return tuple(sorted({len(set(picked)) for picked in choice.picks_by_word().values()}))


def choice_of(rule):
    """The choice in which each thread picks what the rule puts out for the row 0, 1, .."""
    check_rule(rule)
    pool = rule.pool
    if pool.size > MAX_SNAP or pool != snap_pool(pool.size):
        raise InvalidOperation("the pool of the rule is no snap pool")
    numbers, knowing = sight_table(pool, rule.rounds), known_table(pool, rule.rounds)
    picks = {}
    for word in numbers:
        for view in views_behind(tuple(range(pool.size)), numbers[word], knowing[word]):
            if view not in rule or rule[view] not in knowing[word][view[0]]:
                raise InvalidOperation("the rule puts out no thread that is known")
            picks[view[:2]] = rule[view]
    return Choice(pool.size, rule.rounds, picks)
