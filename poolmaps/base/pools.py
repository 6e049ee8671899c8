"""Pools: the webs of which each round has one."""

from poolmaps.base.checks import are_numbers, check_number
from poolmaps.base.webs import MAX_THREADS, Web, chain_web, check_web, star_web, web_made
from poolmaps.errors import InvalidOperation, InvalidPool, InvalidWeb, TooMany

MAX_WEBS = 80
MAX_SNAP = 4
PAIR_HEARD = {"R": ((), (0,)), "L": ((1,), ()), "B": ((1,), (0,)), "N": ((), ())}


def web_key(web):
    """What tells a web from all different ones."""
    return (web.heard, web.marks)


def is_web_tuple(value):
    """Whether the value is a tuple of 1 to 80 webs of one size."""
    if not isinstance(value, tuple) or not 1 <= len(value) <= MAX_WEBS:
        return False
    if not all([isinstance(web, Web) for web in value]):
        return False
    size = value[0].size
    return all([web.size == size for web in value])


def places_of(webs):
    """A dict from what tells webs from different ones to their indices."""
    return {(web.heard, web.marks): index for index, web in enumerate(webs)}


def each_once(webs):
    """The tuple of these webs, each where it comes first."""
    firsts = {}
    for web in webs:
        firsts.setdefault(web_key(web), web)
    return tuple(firsts.values())


class Pool:
    """Different webs of one size, in an order. Pools never change."""

    def __init__(self, webs):
        if not is_web_tuple(webs):
            raise InvalidPool("these are not 1 to 80 webs of one size")
        self._webs = webs
        self._places = places_of(webs)
        if len(self._places) < len(webs):
            raise InvalidPool("some webs are equal")

    @property
    def webs(self):
        """The webs in their order."""
        return self._webs

    @property
    def size(self):
        """The number of threads."""
        return self._webs[0].size

    @property
    def is_marked(self):
        """Whether some web has a mark that is not 0."""
        return any([web.is_marked for web in self._webs])

    @property
    def is_rooted(self):
        """Whether each web has a root."""
        return all([len(web.roots) > 0 for web in self._webs])

    def index_of(self, web):
        """The index of a web of the pool."""
        if web not in self:
            raise InvalidWeb("this is no web of the pool")
        return self._places[web_key(web)]

    def place_of(self, heard, marks):
        """The index of the web of the pool with these parts."""
        return self._places[(heard, marks)]

    def picked(self, indices):
        """The pool of the webs with these indices, in this order."""
        if not are_numbers(indices, 0, len(self._webs) - 1) or not 0 < len(indices) == len(set(indices)):
            raise InvalidOperation("these are not one or more different indices")
        return Pool(tuple([self._webs[index] for index in indices]))

    def with_web(self, web):
        """The pool with one more web behind the others."""
        check_web(web, self.size)
        if web in self:
            raise InvalidOperation("the web is in the pool already")
        if len(self._webs) == MAX_WEBS:
            raise TooMany(MAX_WEBS)
        return Pool((*self._webs, web))

    def without_web(self, index):
        """The pool without the web with this index."""
        check_number(index, 0, len(self._webs) - 1)
        if len(self._webs) == 1:
            raise InvalidOperation("a pool keeps its only web")
        return Pool((*self._webs[:index], *self._webs[index + 1:]))

    def unmarked(self):
        """The pool of the webs with all marks 0, each once."""
        return Pool(each_once([web.unmarked() for web in self._webs]))

    def renumbered(self, numbers):
        """The pool of all webs with the threads renumbered."""
        return Pool(tuple([web.renumbered(numbers) for web in self._webs]))

    def merged(self, other):
        """The pool of the webs of both, each once, those of this pool first."""
        check_pool_like(other, self)
        webs = each_once([*self._webs, *other.webs])
        if len(webs) > MAX_WEBS:
            raise TooMany(MAX_WEBS)
        return Pool(webs)

    def is_within(self, other):
        """Whether all webs are webs of the other pool."""
        check_pool_like(other, self)
        return all([web in other for web in self._webs])

    def __getitem__(self, at):
        check_number(at, 0, len(self._webs) - 1)
        return self._webs[at]

    def __contains__(self, x):
        return isinstance(x, Web) and web_key(x) in self._places

    def __iter__(self):
        return iter(self._webs)

    def __len__(self):
        return len(self._webs)

    def __eq__(self, other):
        return isinstance(other, Pool) and self._webs == other._webs

    def __str__(self):
        return f"pool of {len(self._webs)} webs of {self.size} threads"


def check_pool(pool):
    """Raises InvalidPool for anything but a pool."""
    if not isinstance(pool, Pool):
        raise InvalidPool("this is no pool")


def check_pool_like(other, pool):
    """Raises InvalidPool for anything but a pool of the size of this one."""
    if not isinstance(other, Pool) or other.size != pool.size:
        raise InvalidPool("this is no pool of so many threads")


def check_thread(pool, thread):
    """Raises InvalidNumber for anything but a thread of the pool."""
    check_number(thread, 0, pool.size - 1)


def blocks_of_some(threads):
    """All ascending tuples of one or more of these ascending threads."""
    blocks = [()]
    for thread in threads:
        blocks = blocks + [(*block, thread) for block in blocks]
    return blocks[1:]


def codes_of_partings(size):
    """The list of the codes of all ordered partings of so many threads.

    A code tells for each thread, `size` bits for each one, the threads of its block and of all blocks ahead.
    """
    whole = (1 << size) - 1
    codes = [[0]]
    for left in range(1, whole + 1):
        told = []
        for block in range(1, left + 1):
            if block & left == block:
                code = code_of_block(size, block, whole ^ left | block)
                told = told + [code | behind for behind in codes[left ^ block]]
        codes.append(told)
    return codes[whole]


def code_of_block(size, block, heard):
    """The part of a code that tells for the threads of a block which threads they hear."""
    code = 0
    for thread in range(size):
        if block >> thread & 1:
            code = code | heard << size * thread
    return code


def in_all(masks):
    """The bits that all masks have."""
    shared = masks[0]
    for mask in masks:
        shared = shared & mask
    return shared


def snap_webs(size):
    """The list of the webs of all ordered partings of so many threads, ascending by `heard`."""
    whole = (1 << size) - 1
    threads_in = [tuple([thread for thread in range(size) if mask >> thread & 1]) for mask in range(whole + 1)]
    signals_in = [(threads, 0) for threads in threads_in]
    others_in = [
        [tuple([other for other in threads if other != thread]) for threads in threads_in] for thread in range(size)
    ]
    parts = []
    for code in codes_of_partings(size):
        masks = [code >> size * thread & whole for thread in range(size)]
        heard = tuple([others[mask] for others, mask in zip(others_in, masks)])
        # The threads of the first block, and nobody else, are heard by all.
        parts.append((heard, tuple([signals_in[mask] for mask in masks]), threads_in[in_all(masks)]))
    return [web_made(heard, signals, roots) for heard, signals, roots in sorted(parts)]


def snap_pool(size):
    """The pool of the webs of all ordered partings of so many threads."""
    check_number(size, 1, MAX_SNAP)
    return Pool(tuple(snap_webs(size)))


def star_pool(size):
    """The pool of the webs in which all hear one center, for each center."""
    check_number(size, 1, MAX_THREADS)
    return Pool(tuple([star_web(size, center) for center in range(size)]))


def chain_pool(size):
    """The pool of the chains of so many threads, for each first thread."""
    check_number(size, 1, MAX_THREADS)
    return Pool(tuple([chain_web(size, first) for first in range(size)]))


def pair_pool(letters):
    """The pool of two threads with a web for each letter."""
    if not isinstance(letters, str) or not 0 < len(letters) == len(set(letters)):
        raise InvalidOperation("these are not one to four different letters")
    if not all([letter in PAIR_HEARD for letter in letters]):
        raise InvalidOperation("the letters of webs are R, L, B and N")
    return Pool(tuple([Web(PAIR_HEARD[letter]) for letter in letters]))
