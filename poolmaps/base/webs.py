"""Webs: whom each thread hears in a round, and its mark."""

from poolmaps.base.checks import are_all_numbers, are_ascending, are_numbers, check_number
from poolmaps.errors import InvalidOperation, InvalidWeb

MAX_THREADS = 5
MAX_MARK = 9999


def are_others(value, thread, last):
    """Whether the value is an ascending tuple of threads up to the last one, without this one."""
    if not isinstance(value, tuple):
        return False
    front = -1
    for other in value:
        # True and False are values of int, too, but no integers here.
        if not isinstance(other, int) or isinstance(other, bool) or not front < other <= last or other == thread:
            return False
        front = other
    return True


def is_hearing(value):
    """Whether the value tells of one to five threads which others they hear."""
    if not isinstance(value, tuple) or not 1 <= len(value) <= MAX_THREADS:
        return False
    last = len(value) - 1
    return all([are_others(others, thread, last) for thread, others in enumerate(value)])


def is_marking(value, size):
    """Whether the value is None, or a tuple with a mark for each thread."""
    return value is None or (are_numbers(value, 0, MAX_MARK) and len(value) == size)


def threads_reached(heard, thread):
    """The ascending tuple of the threads to which ways lead from this one."""
    reached = [thread]
    grown = True
    while grown:
        farther = [
            each for each, others in enumerate(heard)
            if each not in reached and any([other in reached for other in others])
        ]
        reached = [*reached, *farther]
        grown = len(farther) > 0
    return tuple(sorted(reached))


def knowing_masks(heard):
    """For each thread the threads from which ways lead to it, itself included, as the bits of an integer."""
    masks = []
    for thread, others in enumerate(heard):
        mask = 1 << thread
        for other in others:
            mask = mask | 1 << other
        masks.append(mask)
    for between, _ in enumerate(heard):
        masks = [mask | masks[between] if mask >> between & 1 else mask for mask in masks]
    return masks


def roots_of(heard):
    """The ascending tuple of the threads from which ways lead to all."""
    shared = -1
    for mask in knowing_masks(heard):
        shared = shared & mask
    return tuple([thread for thread, _ in enumerate(heard) if shared >> thread & 1])


def pairs_in(heard):
    """The list of the pairs of a thread and another one that it hears, ascending."""
    return [(thread, other) for thread, others in enumerate(heard) for other in others]


def hearing_text(pairs):
    """The part of the text of a web that tells who hears whom."""
    if not pairs:
        return "nobody hears"
    return ", ".join([f"{thread} hears {other}" for thread, other in pairs])


def marks_text(marks):
    """The part of the text of a web that tells the marks; nothing if all are 0."""
    if not any(marks):
        return ""
    told = " ".join([str(mark) for mark in marks])
    return f"; marks {told}"


class Web:
    """Whom each thread hears in a round, and its mark. Webs never change."""

    def __init__(self, heard, marks=None):
        if not is_hearing(heard) or not is_marking(marks, len(heard)):
            raise InvalidWeb("the threads and marks make no web")
        self._heard = heard
        self._marks = (0,) * len(heard) if marks is None else marks
        self._signals = tuple([
            (tuple(sorted((thread, *others))), mark) for thread, (others, mark) in enumerate(zip(heard, self._marks))
        ])
        self._roots = roots_of(heard)

    @property
    def heard(self):
        """For each thread the others that it hears."""
        return self._heard

    @property
    def marks(self):
        """The mark of each thread."""
        return self._marks

    @property
    def size(self):
        """The number of threads."""
        return len(self._heard)

    @property
    def signals(self):
        """For each thread the pair of all that it hears, itself included, and its mark."""
        return self._signals

    @property
    def roots(self):
        """The threads from which ways lead to all."""
        return self._roots

    @property
    def is_marked(self):
        """Whether some mark is not 0."""
        return any(self._marks)

    def signal(self, thread):
        """The signal of the thread."""
        check_number(thread, 0, self.size - 1)
        return self._signals[thread]

    def hears(self, thread):
        """The threads that this one hears, itself included."""
        return self.signal(thread)[0]

    def reached(self, thread):
        """The threads to which ways lead from this one, itself included."""
        check_number(thread, 0, self.size - 1)
        return threads_reached(self._heard, thread)

    def with_hearing(self, thread, other):
        """The web in which the first thread hears the second one, too."""
        check_number(thread, 0, self.size - 1)
        check_number(other, 0, self.size - 1)
        if other in self._signals[thread][0]:
            raise InvalidOperation("the thread hears this one already, or is this one")
        heard = list(self._heard)
        heard[thread] = (*heard[thread], other)
        return web_of(heard, self._marks)

    def without_hearing(self, thread, other):
        """The web in which the first thread does not hear the second one."""
        check_number(thread, 0, self.size - 1)
        check_number(other, 0, self.size - 1)
        if other not in self._heard[thread]:
            raise InvalidOperation("the thread does not hear this one, or is this one")
        heard = list(self._heard)
        heard[thread] = [each for each in heard[thread] if each != other]
        return web_of(heard, self._marks)

    def with_mark(self, thread, mark):
        """The web with this mark for the thread."""
        check_number(thread, 0, self.size - 1)
        check_number(mark, 0, MAX_MARK)
        return Web(self._heard, (*self._marks[:thread], mark, *self._marks[thread + 1:]))

    def unmarked(self):
        """The web with all marks 0."""
        return Web(self._heard)

    def joined(self, other):
        """The web in which each thread hears whom it hears in at least one of both."""
        check_web(other, self.size)
        hearing = [[*self.hears(thread), *other.hears(thread)] for thread in range(self.size)]
        return web_of(hearing, self._marks)

    def shared(self, other):
        """The web in which each thread hears whom it hears in both."""
        check_web(other, self.size)
        hearing = [
            [each for each in self.hears(thread) if each in other.hears(thread)] for thread in range(self.size)
        ]
        return web_of(hearing, self._marks)

    def then(self, other):
        """The web in which each thread hears whom it knows behind a round with each of both."""
        check_web(other, self.size)
        hearing = [
            [far for near in other.hears(thread) for far in self.hears(near)] for thread in range(self.size)
        ]
        return web_of(hearing, self._marks)

    def is_within(self, other):
        """Whether each thread hears in the other web whom it hears in this one."""
        check_web(other, self.size)
        return all([each in theirs for mine, theirs in zip(self._heard, other.heard) for each in mine])

    def renumbered(self, numbers):
        """The web in which each thread has its new number."""
        if not are_all_numbers(numbers, self.size):
            raise InvalidOperation("the numbers are not a tuple with each thread once")
        heard = [()] * self.size
        marks = [0] * self.size
        for thread, number in enumerate(numbers):
            heard[number] = tuple(sorted([numbers[other] for other in self._heard[thread]]))
            marks[number] = self._marks[thread]
        return Web(tuple(heard), tuple(marks))

    def __contains__(self, x):
        return are_numbers(x, 0, MAX_THREADS) and x in pairs_in(self._heard)

    def __len__(self):
        return len(pairs_in(self._heard))

    def __eq__(self, other):
        return isinstance(other, Web) and self._heard == other._heard and self._marks == other._marks

    def __str__(self):
        return f"web of {len(self._heard)} threads: {hearing_text(pairs_in(self._heard))}{marks_text(self._marks)}"


def check_web(web, size):
    """Raises InvalidWeb for anything but a web of this size."""
    if not isinstance(web, Web) or web.size != size:
        raise InvalidWeb("this is no web with so many threads")


def web_made(heard, signals, roots):
    """The web without marks that has these parts, which are known to fit."""
    # Pools of many webs are made often, so what is known already is not checked and reckoned once more.
    web = Web(((),))
    web._heard = heard
    web._marks = (0,) * len(heard)
    web._signals = signals
    web._roots = roots
    return web


def web_of(hearing, marks):
    """The web in which each thread hears those told, in any order and perhaps itself among them."""
    heard = [tuple(sorted({other for other in others if other != thread})) for thread, others in enumerate(hearing)]
    return Web(tuple(heard), marks)


def silent_web(size):
    """The web in which nobody hears another one."""
    check_number(size, 1, MAX_THREADS)
    return Web(((),) * size)


def full_web(size):
    """The web in which all hear all."""
    check_number(size, 1, MAX_THREADS)
    return parting_web((tuple(range(size)),))


def star_web(size, center):
    """The web in which all hear the center, and nobody else."""
    check_number(size, 1, MAX_THREADS)
    check_number(center, 0, size - 1)
    return Web(tuple([() if thread == center else (center,) for thread in range(size)]))


def chain_web(size, first):
    """The web in which each thread but the first one hears the one ahead of it in the ring."""
    check_number(size, 1, MAX_THREADS)
    check_number(first, 0, size - 1)
    return Web(tuple([() if thread == first else ((thread - 1) % size,) for thread in range(size)]))


def is_parting(value):
    """Whether the value is an ordered parting of one to five threads."""
    if not isinstance(value, tuple) or not 1 <= len(value) <= MAX_THREADS:
        return False
    if not all([are_ascending(block, 0, MAX_THREADS - 1) and len(block) > 0 for block in value]):
        return False
    threads = sorted([thread for block in value for thread in block])
    return threads == list(range(len(threads)))


def parting_web(blocks):
    """The web in which a thread hears those of its block and of all blocks ahead of it."""
    if not is_parting(blocks):
        raise InvalidOperation("the blocks make no ordered parting")
    hearing = {}
    ahead = []
    for block in blocks:
        ahead = [*ahead, *block]
        for thread in block:
            hearing[thread] = ahead
    return web_of([hearing[thread] for thread in range(len(ahead))], None)
