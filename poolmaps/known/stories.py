"""Stories: words that are told round by round."""

from poolmaps.base.checks import check_many, check_number
from poolmaps.base.pools import check_pool, check_thread
from poolmaps.errors import TooMany
from poolmaps.known.sights import check_few_words, sight_table
from poolmaps.known.words import MAX_ROUNDS, known_to_all, knowing_behind


def word_text(word):
    """The indices of a word with single blanks, or a sign for none."""
    return " ".join([str(index) for index in word]) if word else "-"


class Story:
    """A word that is told round by round, and can be taken back."""

    def __init__(self, pool):
        check_pool(pool)
        self._pool = pool
        self._word = ()
        self._undone = ()

    @property
    def word(self):
        """The word so far."""
        return self._word

    @property
    def pool(self):
        """The pool of the webs."""
        return self._pool

    @property
    def knowing(self):
        """For each thread the threads that it knows now."""
        return knowing_behind(self._pool, self._word)

    def go(self, index):
        """Adds a round with this web, and tells who knows whom then."""
        check_number(index, 0, len(self._pool) - 1)
        if len(self._word) == MAX_ROUNDS:
            raise TooMany(MAX_ROUNDS)
        self._word = (*self._word, index)
        self._undone = ()
        return self.knowing

    def undo(self, *, many=1):
        """Takes the last rounds back, and tells who knows whom then."""
        check_many(many, len(self._word))
        kept = len(self._word) - many
        self._undone = self._word[kept:] + self._undone
        self._word = self._word[:kept]
        return self.knowing

    def redo(self, *, many=1):
        """Adds rounds again that were taken back, and tells who knows whom then."""
        check_many(many, len(self._undone))
        self._word = self._word + self._undone[:many]
        self._undone = self._undone[many:]
        return self.knowing

    def possible(self, thread):
        """The words of this length behind which the thread has the same sight."""
        check_thread(self._pool, thread)
        check_few_words(self._pool, len(self._word))
        table = sight_table(self._pool, len(self._word))
        number = table[self._word][thread]
        return tuple([word for word, numbers in table.items() if numbers[thread] == number])

    def twin(self):
        """An equal story with an equal history that goes on by itself."""
        twin = Story(self._pool)
        twin._word = self._word
        twin._undone = self._undone
        return twin

    def __len__(self):
        return len(self._word)

    def __bool__(self):
        return bool(known_to_all(self.knowing))

    def __eq__(self, other):
        return isinstance(other, Story) and self._pool == other._pool and self._word == other._word

    def __str__(self):
        return f"story of {len(self._word)} rounds: {word_text(self._word)}"
