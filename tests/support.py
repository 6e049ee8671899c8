"""What the tests share: wrong values, small pools, slow reckonings, and values near right ones."""

from itertools import combinations, permutations, product
from unittest import TestCase

from poolmaps.base.pools import Pool, pair_pool, snap_pool, star_pool
from poolmaps.base.webs import Web, silent_web
from poolmaps.errors import InvalidNumber, InvalidWeb
from poolmaps.groups.sieves import Sieve
from poolmaps.known.stories import Story
from poolmaps.near.middles import Middles
from poolmaps.objects.courses import Course
from poolmaps.objects.kinds import adder_kind
from poolmaps.objects.plans import Plan
from poolmaps.plays.plays import same_play
from poolmaps.tasks.rules import Rule
from poolmaps.tasks.tasks import Task


def nested(kind, depth):
    value = {0: 0} if kind == "dict" else ()
    for _ in range(depth - 1):
        value = {"tuple": (value,), "list": [value], "dict": {0: value}}[kind]
    return value


WRONG = [
    -1, -2, 0, 1, 2, 3, 5, 6, 7, 80, 3001, 10000, 10 ** 59, 10 ** 60 - 1, 10 ** 60, -10 ** 60, 10 ** 100 - 1,
    1 - 10 ** 100, True, False, None, "", "0", "R", "RLBN", "RLBNR", "rl", "X", "~ !", "a" * 2000, (), (0,), (1,),
    (-1,), (7,), (80,), (True,), (False,), ("0",), (None,), (0, True), (0, 0), (1, 0), (0, 1), ((), ()), ((), (True,)),
    ((), [0]), ((), (0, 0)), ((1, 0), ()), ((0,), (1,)), ((0, 1), ()), (10 ** 99,), (0,) * 7, ((),) * 6,
    ((0,),), ((0, 1),), ((0, 0), (0, 0)), ((1,), (0,)), ((), (0,)), ((0, 0), ()),
    [], [0], [(0,)], [()], {}, {0: 0}, {(0,): (0, 0)}, {"a": []}, nested("tuple", 8), nested("list", 8),
    nested("dict", 8), Web(((), ())), Web(((),)), Web(((1,), (0,)), (0, 9999)), pair_pool("RL"), snap_pool(1),
    Story(pair_pool("B")), InvalidWeb("x"), InvalidNumber(3), Sieve(pair_pool("RL")), Middles(snap_pool(1), (1,)),
    Task({(0,): ((0,),)}), Task({(0, 1): ((0, 0), (1, 1))}), Rule(pair_pool("RL"), 0, {}),
    adder_kind(11), Plan(adder_kind(11), 0, 0, 0), Course(Plan(adder_kind(11), 0, 0, 0)), same_play(snap_pool(1)),
    {(0,): ((0,),)}, {(True, 0): ((0, 0),)}, {(0, 0, ((0, 0),)): 0}, {(0, 0): 0, (0, 1): 1}, {0: 0, 1: 1},
]


def is_int(value):
    return type(value) is int


def is_int_tuple(value):
    return type(value) is tuple and all(type(part) is int for part in value)


def wrong_where(right, *more):
    """All wrong values, and some more, for which `right` does not hold."""
    return [value for value in [*WRONG, *more] if not right(value)]


def not_numbers(low, high):
    return wrong_where(lambda value: is_int(value) and low <= value <= high, low - 1, high + 1)


def not_webs(size):
    return wrong_where(lambda value: type(value) is Web and len(value.heard) == size)


def not_pools():
    return wrong_where(lambda value: type(value) is Pool)


def looks_like_word(pool, value):
    return is_int_tuple(value) and len(value) <= 6 and all(0 <= index < len(pool.webs) for index in value)


def not_words(pool, length=None):
    return wrong_where(
        lambda value: looks_like_word(pool, value) and length in (None, len(value)), (0,) * 7, (len(pool.webs),),
        [0, 0], (0, -1), ("", 0), (0, 10 ** 100 - 1),
    )


class Case(TestCase):
    """Checks that wrong arguments are rejected in the right order."""

    def fails(self, error, call, *args, **keywords):
        """The error that the call raises; it is of just this class, and keeps what it is told."""
        with self.assertRaises(Exception) as caught:
            call(*args, **keywords)
        told = caught.exception
        self.assertIs(type(told), error, (call, args, keywords, told))
        return told

    def fails_keeping(self, error, kept, call, *args, **keywords):
        told = self.fails(error, call, *args, **keywords)
        if error.__name__ in KEPT:
            self.assertEqual(repr(getattr(told, KEPT[error.__name__])), repr(kept), (call, args))

    def checks_arguments(self, call, good, wrong):
        """Each set of wrong arguments raises the error of the first one of them.

        `wrong` has, for each argument in `good`, None or a pair of an error and wrong values.
        """
        places = [place for place, told in enumerate(wrong) if told is not None]
        for many in range(1, len(places) + 1):
            for chosen in combinations(places, many):
                error, values = wrong[chosen[0]]
                for turn, value in enumerate(values):
                    args = list(good)
                    args[chosen[0]] = value
                    for place in chosen[1:]:
                        others = wrong[place][1]
                        args[place] = others[(turn + place) % len(others)]
                    self.fails_keeping(error, value, call, *args)

    def judges(self, call, args, others=()):
        """The judge `call`, with these arguments in front, takes any value for its last one."""
        for value in [*WRONG, *others]:
            self.assertIn(call(*args, value), (True, False))
            self.assertIs(type(call(*args, value)), bool)


KEPT = {
    "InvalidNumber": "given", "TooMany": "limit", "NothingToUndo": "many", "Refused": "claim", "UnknownName": "wanted",
}


# Small pools, gone through one after the other.

SNAPS = {size: snap_pool(size) for size in range(1, 5)}


def all_webs(size):
    """All webs without marks."""
    pairs = [(thread, other) for thread in range(size) for other in range(size) if thread != other]
    return [
        Web(tuple(tuple(o for o in range(size) if (t, o) in chosen) for t in range(size)))
        for many in range(len(pairs) + 1) for chosen in combinations(pairs, many)
    ]


ALL3 = all_webs(3)


def pair_pools():
    """All pools of two threads without marks, in one order each."""
    return [pair_pool("".join(letters)) for many in range(1, 5) for letters in combinations("RLBN", many)]


def marked_pools():
    """Some pools of one to three threads with marks."""
    right, left, none = Web(((), (0,))), Web(((1,), ())), silent_web(2)
    chain, star = Web(((), (0,), (1,))), Web(((), (0,), (0,)))
    return [
        Pool((right, right.with_mark(0, 9999))),
        Pool((right, left.with_mark(0, 1), none.with_mark(1, 3))),
        Pool((none, none.with_mark(0, 1), none.with_mark(0, 1).with_mark(1, 1))),
        Pool((left.with_mark(1, 2), right.with_mark(1, 2), left)),
        Pool((Web(((),)), Web(((),), (1,)), Web(((),), (9999,)))),
        Pool((chain, chain.with_mark(1, 5), star.with_mark(1, 5))),
        Pool((star, star.with_mark(2, 1), chain.with_mark(2, 1))),
    ]


def triple_pools(step=97, many=2):
    """Each step-th pool of so many webs of three threads without marks."""
    return [Pool(webs) for webs in list(combinations(ALL3, many))[::step]]


def long_pool():
    """A pool of 53 webs of two threads whose words are one path, as those of the pool with R, L and B."""
    webs = [Web(((1,), (0,)), ((at + 1) // 2, at // 2)) for at in range(53)]
    first, last = webs[0].without_hearing(0, 1), webs[52].without_hearing(1, 0)
    return Pool((first, *webs[1:52], last))


def small_pools():
    return [*pair_pools(), *marked_pools(), *triple_pools(197), star_pool(3), snap_pool(1)]


def plain_words(pool, rounds):
    return list(product(range(len(pool.webs)), repeat=rounds))


# Slow reckonings, by other ways than those of the program.

def slow_holders(pool, word, thread):
    """The threads that know this one behind the word: its news goes on to those that hear it."""
    holders = {thread}
    for index in word:
        heard = pool.webs[index].heard
        holders = holders | {each for each in range(pool.size) if holders & set(heard[each])}
    return holders


def slow_known(pool, word):
    holders = [slow_holders(pool, word, thread) for thread in range(pool.size)]
    return tuple(tuple(o for o in range(pool.size) if t in holders[o]) for t in range(pool.size))


def slow_sight(pool, word, thread):
    """The sight itself, as a tree of all that the thread knows."""
    if not word:
        return (thread,)
    web = pool.webs[word[-1]]
    asked = sorted({thread, *web.heard[thread]})
    return (thread, web.marks[thread], tuple(slow_sight(pool, word[:-1], each) for each in asked))


def slow_sights(pool, rounds):
    """A dict from the words to the sights of all threads."""
    return {
        word: tuple(slow_sight(pool, word, thread) for thread in range(pool.size))
        for word in plain_words(pool, rounds)
    }


def slow_run_views(pool, rounds, rows):
    """A dict from all runs to the views of all threads, numbered by the first words behind which they come."""
    sights = slow_sights(pool, rounds)
    firsts = [list(dict.fromkeys(told[thread] for told in sights.values())) for thread in range(pool.size)]
    views = {}
    for row, word in product(rows, sights):
        knowing = slow_known(pool, word)
        views[row, word] = tuple(
            (t, firsts[t].index(sights[word][t]), tuple((o, row[o]) for o in knowing[t])) for t in range(pool.size))
    return views


def binary_rows(size):
    return list(product((0, 1), repeat=size))


def slow_classes(items, near):
    """The sorted classes of items that steps between near ones join, by ever greater sets."""
    classes = [{item} for item in items]
    grown = True
    while grown:
        grown = False
        for one, other in combinations(range(len(classes)), 2):
            if any(near(a, b) for a in classes[one] for b in classes[other]):
                joined = classes[one] | classes[other]
                classes = [each for at, each in enumerate(classes) if at not in (one, other)] + [joined]
                grown = True
                break
    return tuple(sorted(tuple(sorted(each)) for each in classes))


def slow_lots(pool, rounds):
    sights = slow_sights(pool, rounds)
    return slow_classes(list(sights), lambda one, other: any(a == b for a, b in zip(sights[one], sights[other])))


def near_values(value):
    """Values near a right one: something left out, doubled, exchanged, of another kind, or another number."""
    yield from (None, [value], (value,))
    if type(value) is dict:
        yield from (list(value.items()), tuple(value), {**value, (): 0}, {**value, "a": 0}, {})
        for key, part in value.items():
            less = {each: told for each, told in value.items() if each != key}
            yield less
            for other in near_values(part):
                yield {**value, key: other}
            for other in near_values(key):
                try:
                    yield {**less, other: part}
                except TypeError:
                    pass
    if is_int(value):
        yield from (value - 1, value + 1, -1, 80, str(value), 10 ** 99)
        if value in (0, 1):
            yield bool(value)
    if type(value) is tuple:
        yield from (list(value), value + (0,), value + ((),), dict(enumerate(value)))
        for at, part in enumerate(value):
            yield value[:at] + value[at + 1:]
            yield value[:at] + (part, part) + value[at + 1:]
            if at:
                yield value[:at - 1] + (part, value[at - 1]) + value[at + 1:]
            for other in near_values(part):
                yield value[:at] + (other,) + value[at + 1:]


def own_partings(threads):
    """All ordered partings of these threads."""
    if not threads:
        return [()]
    return [
        (block, *behind) for many in range(1, len(threads) + 1) for block in combinations(threads, many)
        for behind in own_partings([thread for thread in threads if thread not in block])
    ]


def orders(size):
    return list(permutations(range(size)))
