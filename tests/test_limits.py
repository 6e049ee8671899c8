"""Part 4a: near limits, with [4.1] to [4.4] and [0.16]."""

from itertools import product
from random import Random

from poolmaps.base.pools import Pool, pair_pool, snap_pool, star_pool
from poolmaps.base.webs import Web, full_web, silent_web
from poolmaps.errors import InvalidNumber, InvalidOperation, InvalidPool, TooMany
from poolmaps.groups.bars import agree_in
from poolmaps.known.sights import all_views
from poolmaps.near.limits import (
    is_near_chain, is_near_map, near_chain, near_distances, near_least, near_limit, near_map,
)
from tests.support import (
    Case, binary_rows, is_int, looks_like_word, marked_pools, near_values, not_numbers, not_pools, pair_pools,
    slow_run_views, small_pools, triple_pools,
)

PATH, PAIR = pair_pool("RLB"), pair_pool("RL")
NO_POOLS = (InvalidPool, not_pools())
NO_ROUNDS = (InvalidNumber, not_numbers(0, 6))
NO_MOST = (InvalidNumber, not_numbers(1, 999))
# So many marks that two rounds have more than 3000 words; and 1001 runs in one row for one round.
WIDE = Pool(tuple(silent_web(2).with_mark(0, mark) for mark in range(55)))
LONG = Pool(tuple(full_web(5).with_mark(0, mark) for mark in range(12)))

# Pools with high views that are farther from low ones than others.
FARTHER = [
    Pool((Web(((), (), (0,))), Web(((2,), (2,), ())), Web(((2,), (0,), (1,))))),
    Pool((Web(((), (), (0,))), Web(((1, 2), (), (0,))), Web(((1, 2), (0, 2), ())))),
]


def slow_views(pool, rounds):
    return slow_run_views(pool, rounds, binary_rows(pool.size))


def slow_distances(pool, rounds):
    """The least numbers of ties, by going on from the views that are reached as long as there are new ones."""
    runs = [set(views) for views in slow_views(pool, rounds).values()]
    views = set().union(*runs)
    found = {view: 0 for view in views if all(entry == 0 for _, entry in view[2])}
    ties = 0
    while True:
        ties += 1
        near = [run for run in runs if run & set(found)]
        fresh = set().union(*near) - set(found)
        if not fresh:
            return {view: found.get(view) for view in sorted(views)}
        found.update({view: ties for view in fresh})


def slow_limit(pool, rounds):
    told = [ties for view, ties in slow_distances(pool, rounds).items()
            if all(entry == 1 for _, entry in view[2]) and ties is not None]
    return min(told, default=None)


def slow_is_chain(pool, rounds, value):
    if type(value) is not tuple or not 1 <= len(value) <= 5000:
        return False
    views = slow_views(pool, rounds)
    ends = []
    for link in value:
        if type(link) is not tuple or len(link) != 4 or not (is_int(link[2]) and is_int(link[3])):
            return False
        row, word, one, other = link
        if type(row) is not tuple or not all(is_int(entry) for entry in row) or not looks_like_word(pool, word):
            return False
        if (row, word) not in views or one == other or not {one, other} <= set(range(pool.size)):
            return False
        ends.append((views[row, word][one], views[row, word][other]))
    low = all(entry == 0 for _, entry in ends[0][0][2])
    high = all(entry == 1 for _, entry in ends[-1][1][2])
    return low and high and all(a[1] == b[0] for a, b in zip(ends, ends[1:]))


def slow_is_map(pool, rounds, most, value):
    views = slow_views(pool, rounds)
    if type(value) is not dict or not all(is_int(output) and 0 <= output <= most for output in value.values()):
        return False
    if any(repr(key) not in {repr(view) for told in views.values() for view in told} for key in value):
        return False
    if len(value) != len({view for told in views.values() for view in told}):
        return False
    for (row, _), told in views.items():
        outputs = [value[view] for view in told]
        if max(outputs) - min(outputs) > 1:
            return False
        if len(set(row)) == 1 and set(outputs) != {row[0] * most}:
            return False
    return True


def cases():
    for pool in [*small_pools()[::3], pair_pool("RLBN"), star_pool(3), snap_pool(3), *FARTHER]:
        for rounds in range(3 if len(pool.webs) < 4 else 2):
            yield pool, rounds


class LimitsTest(Case):
    def test_by_all_runs(self):
        for pool, rounds in cases():
            limit = slow_limit(pool, rounds)
            self.assertEqual(near_limit(pool, rounds), limit)
            told = near_distances(pool, rounds)
            self.assertEqual(list(told.items()), list(slow_distances(pool, rounds).items()))
            chain = near_chain(pool, rounds)
            if limit is None:
                self.assertIsNone(chain)
            else:
                self.assertEqual(len(chain), limit)
                self.assertTrue(slow_is_chain(pool, rounds, chain))
                self.assertIs(is_near_chain(pool, rounds, chain), True)

    def test_maps_by_all_runs(self):
        for pool, rounds in cases():
            limit = slow_limit(pool, rounds)
            for most in (1, 2, 3, 4, 999):
                if limit is not None and most > limit:
                    self.fails(InvalidOperation, near_map, pool, rounds, most)
                    continue
                told = near_map(pool, rounds, most)
                self.assertEqual(list(told), list(slow_distances(pool, rounds)))
                self.assertTrue(slow_is_map(pool, rounds, most, told))
                self.assertIs(is_near_map(pool, rounds, most, told), True)
                turned = dict(reversed(told.items()))
                self.assertIs(is_near_map(pool, rounds, most, turned), True)
                self.assertIs(is_near_map(pool, rounds, most + (most < 999) - (most == 999), told),
                              slow_is_map(pool, rounds, most + (most < 999) - (most == 999), told))

    def test_all_maps_of_small_pools(self):
        for pool, rounds, most in ((snap_pool(1), 0, 2), (PATH, 0, 1), (PATH, 0, 2), (pair_pool("B"), 1, 1),
                                   (pair_pool("R"), 1, 1), (pair_pool("N"), 1, 1), (pair_pool("R"), 1, 2)):
            views = sorted({view for told in slow_views(pool, rounds).values() for view in told})
            right = 0
            for outputs in product(range(most + 1), repeat=len(views)):
                value = dict(zip(views, outputs))
                told = slow_is_map(pool, rounds, most, value)
                right += told
                self.assertIs(is_near_map(pool, rounds, most, value), told)
            limit = slow_limit(pool, rounds)
            self.assertEqual(right > 0, limit is None or most <= limit)

    def test_values_near_maps(self):
        for pool, rounds, most in ((PATH, 0, 1), (PATH, 1, 2), (snap_pool(1), 1, 3), (pair_pool("B"), 1, 1)):
            for value in near_values(near_map(pool, rounds, most)):
                self.assertIs(is_near_map(pool, rounds, most, value), slow_is_map(pool, rounds, most, value))
            self.judges(is_near_map, [pool, rounds, most])
            more = {**near_map(pool, rounds, most), all_views(pool, rounds, ((5,) * pool.size,))[0]: 0}
            self.assertIs(is_near_map(pool, rounds, most, more), False)

    def test_values_near_chains(self):
        for pool, rounds in ((PATH, 0), (PATH, 1), (star_pool(3), 0), (pair_pool("BN"), 1)):
            chain = near_chain(pool, rounds)
            for value in near_values(chain):
                self.assertIs(is_near_chain(pool, rounds, value), slow_is_chain(pool, rounds, value), value)
            self.judges(is_near_chain, [pool, rounds], [chain[::-1], chain * 2])
        self.assertFalse(is_near_chain(PATH, 1, (((0, 5), (0,), 0, 1),)))

    def test_chains_there_and_back(self):
        first, *others = near_chain(PATH, 1)
        back = (first[0], first[1], first[3], first[2])
        for many in (1, 2, 2498):
            self.assertIs(is_near_chain(PATH, 1, (first, back) * many + (first, *others)), True)
        self.assertIs(is_near_chain(PATH, 1, (first, back) * 2499 + (first, *others)), False)
        self.assertIs(is_near_chain(PATH, 1, (first, back) * 2498 + (first, first, *others)), False)
        self.assertIs(is_near_chain(PATH, 1, (first, first, *others)), False)
        idle = (first[0], first[1], first[3], first[3])
        self.assertIs(is_near_chain(PATH, 1, (first, idle, *others)), False)
        for entry in (0, 1, 2, 9):
            told = is_near_chain(Pool((silent_web(3),)), 0, (((0, 1, entry), (), 0, 1),))
            self.assertIs(told, entry < 2)
        five = Pool((silent_web(5),))
        one, other = ((0,) * 4 + (1,), (), 0, 4), ((0,) * 4 + (1,), (), 4, 0)
        self.assertIs(is_near_chain(five, 0, (one, other) * 2499 + (one,)), True)
        lows = (((0,) * 4 + (1,), (), 0, 1), ((0,) * 4 + (1,), (), 1, 4))
        self.assertIs(is_near_chain(five, 0, (one, other) * 2499 + lows), True)
        self.assertIs(is_near_chain(five, 0, (one, other) * 2499 + (lows[0], (lows[0][0], (), 1, 0), one)), False)
        self.assertIs(is_near_chain(five, 0, (one, other, one) * 1666 + (one,)), False)
        self.assertIs(is_near_chain(five, 0, (one, other) * 2500 + (one,)), False)

    def test_drawn_chains(self):
        drawn = Random(5)
        for pool, rounds in ((PATH, 1), (snap_pool(3), 1), (pair_pool("RN"), 2)):
            runs = list(slow_views(pool, rounds))
            for _ in range(400):
                value = []
                for _ in range(drawn.randrange(1, 3)):
                    row, word = drawn.choice(runs)
                    one, other = drawn.sample(range(pool.size), 2)
                    value.append((row, word, one, other))
                self.assertIs(is_near_chain(pool, rounds, tuple(value)), slow_is_chain(pool, rounds, tuple(value)))

    def test_limits_that_the_document_tells(self):
        for rounds in range(4):
            self.assertEqual(near_limit(snap_pool(2), rounds), 3 ** rounds)
        self.assertEqual([near_limit(snap_pool(3), rounds) for rounds in range(3)], [1, 2, 4])
        self.assertEqual([near_limit(snap_pool(4), rounds) for rounds in range(2)], [1, 2])
        for pool in [*pair_pools(), *triple_pools(401)]:
            self.assertEqual(near_limit(pool, 0), 1)
            told = [near_limit(pool, rounds) for rounds in range(3)]
            for rounds, limit in enumerate(told):
                self.assertIs(limit is None, agree_in(pool, rounds))
            self.assertEqual(told, sorted(told, key=lambda limit: 10 ** 6 if limit is None else limit))
            for index in range(len(pool.webs)):
                if len(pool.webs) > 1:
                    less = near_limit(pool.without_web(index), 1)
                    self.assertTrue(less is None or told[1] is not None and less >= told[1])

    def test_one_thread(self):
        for pool in (snap_pool(1), marked_pools()[4]):
            self.assertEqual((near_limit(pool, 2), near_chain(pool, 2)), (None, None))
            self.assertEqual(set(near_distances(pool, 1).values()), {0, None})
            self.assertEqual(near_least(pool, 999), 0)
            self.assertTrue(is_near_map(pool, 1, 7, near_map(pool, 1, 7)))

    def test_near_least(self):
        for most, up_to, told in ((1, 3, 0), (2, 3, 1), (3, 0, None), (3, 1, 1), (4, 3, 2), (9, 2, 2), (10, 2, None),
                                  (10, 3, 3), (27, 6, 3), (81, 4, 4), (82, 4, None)):
            self.assertEqual(near_least(PATH, most, up_to=up_to), told)
        self.assertEqual((near_least(PAIR, 999), near_least(pair_pool("BN"), 2), near_least(PATH, 28)), (1, None, None))
        self.assertEqual(near_least(PATH, 27), 3)
        self.assertEqual(near_least(WIDE, 1, up_to=6), 0)
        self.fails_keeping(TooMany, 3000, near_least, WIDE, 2)
        self.assertIsNone(near_least(WIDE, 2, up_to=1))
        self.assertEqual(near_least(LONG, 2, up_to=6), 1)
        silent = Pool(tuple(silent_web(5).with_mark(0, mark) for mark in range(12)))
        self.fails_keeping(TooMany, 4000, near_least, silent, 2)
        self.assertIsNone(near_least(silent, 2, up_to=1))
        for up_to in not_numbers(0, 6):
            self.fails_keeping(InvalidNumber, up_to, near_least, PATH, 1, up_to=up_to)
            self.fails_keeping(InvalidNumber, 0, near_least, PATH, 0, up_to=up_to)
            self.fails(InvalidPool, near_least, None, 0, up_to=up_to)

    def test_wrong_arguments(self):
        for call in (near_limit, near_chain, near_distances):
            self.checks_arguments(call, [PATH, 1], [NO_POOLS, NO_ROUNDS])
        self.checks_arguments(is_near_chain, [PATH, 1, None], [NO_POOLS, NO_ROUNDS, None])
        self.checks_arguments(near_map, [PATH, 1, 1], [NO_POOLS, NO_ROUNDS, NO_MOST])
        self.checks_arguments(is_near_map, [PATH, 1, 1, None], [NO_POOLS, NO_ROUNDS, NO_MOST, None])
        self.checks_arguments(near_least, [PATH, 1], [NO_POOLS, NO_MOST])

    def test_too_many(self):
        ring = Pool(tuple(full_web(4).with_mark(0, mark) for mark in range(40)))
        for call, more in ((near_limit, ()), (near_chain, ()), (near_distances, ()), (near_map, (3,)),
                           (is_near_map, (3, {}))):
            self.fails_keeping(TooMany, 3000, call, WIDE, 2, *more)
            self.fails_keeping(TooMany, 4000, call, LONG, 2, *more)
            self.fails_keeping(TooMany, 4000, call, ring, 2, *more)
            call(LONG, 1, *more)
            if more:
                self.fails_keeping(InvalidNumber, 0, call, WIDE, 2, 0, *more[1:])
        self.fails_keeping(TooMany, 3000, is_near_chain, WIDE, 2, None)
        self.assertIs(is_near_chain(LONG, 2, None), False)
        self.assertIs(is_near_chain(LONG, 2, (((0,) * 5, (0, 0), 0, 1),)), False)
        # 4000 runs are not too many: 1000 words of three rounds, for four rows.
        self.assertIsNone(near_limit(Pool(tuple(full_web(2).with_mark(0, mark) for mark in range(10))), 3))
        self.assertIsInstance(near_limit(Pool((Web(((), ())), *[full_web(2).with_mark(0, m) for m in range(9)])), 3), int)

    def test_told_maps_are_fresh(self):
        told = near_distances(PATH, 1)
        told.clear()
        self.assertEqual(len(near_distances(PATH, 1)), len(near_map(PATH, 1, 3)))
