"""Part 1c: pools, with [1.2]."""

from itertools import combinations, permutations, product

from poolmaps.base.pools import MAX_WEBS, Pool, chain_pool, pair_pool, snap_pool, star_pool
from poolmaps.base.webs import Web, chain_web, parting_web, silent_web, star_web
from poolmaps.errors import InvalidNumber, InvalidOperation, InvalidPool, InvalidWeb, TooMany
from tests.support import ALL3, WRONG, Case, is_int, is_int_tuple, not_numbers, not_pools, not_webs, wrong_where

RIGHT, LEFT, BOTH, NONE = Web(((), (0,))), Web(((1,), ())), Web(((1,), (0,))), Web(((), ()))
EIGHTY = tuple(silent_web(2).with_mark(0, mark) for mark in range(80))
POOL = Pool((LEFT, BOTH, RIGHT.with_mark(1, 4)))


class PoolTest(Case):
    def test_properties(self):
        self.assertEqual((POOL.webs, POOL.size), ((LEFT, BOTH, RIGHT.with_mark(1, 4)), 2))
        self.assertEqual((POOL.is_marked, POOL.is_rooted), (True, True))
        pool = Pool((RIGHT, NONE))
        self.assertEqual((pool.is_marked, pool.is_rooted), (False, False))
        for name in ("webs", "size", "is_marked", "is_rooted"):
            with self.assertRaises(AttributeError):
                setattr(POOL, name, ())

    def test_one_web_and_eighty(self):
        self.assertEqual(MAX_WEBS, 80)
        self.assertEqual(len(Pool(EIGHTY)), 80)
        self.assertEqual(len(Pool(EIGHTY[:1])), 1)
        self.fails(InvalidPool, Pool, (*EIGHTY, BOTH))
        self.fails(InvalidPool, Pool, ())

    def test_wrong_webs_make_no_pool(self):
        more = (
            [RIGHT], {0: RIGHT}, RIGHT, (RIGHT, RIGHT), (RIGHT, LEFT, Web(((), (0,)), (0, 0))), (RIGHT, silent_web(3)),
            (silent_web(1), RIGHT), (RIGHT, None), (None, RIGHT), (RIGHT, RIGHT.heard), ((RIGHT,),), (RIGHT, True),
        )
        self.checks_arguments(Pool, [(RIGHT,)], [(InvalidPool, [*WRONG, *more])])

    def test_index_of(self):
        for index, web in enumerate(POOL.webs):
            self.assertEqual(POOL.index_of(Web(web.heard, web.marks)), index)
        wrong = [*not_webs(2), *WRONG, RIGHT, NONE, BOTH.with_mark(0, 1), silent_web(3)]
        self.checks_arguments(POOL.index_of, [BOTH], [(InvalidWeb, wrong)])

    def test_picked(self):
        for many in range(1, 4):
            for indices in permutations(range(3), many):
                self.assertEqual(POOL.picked(indices).webs, tuple(POOL.webs[index] for index in indices))
        wrong = wrong_where(
            lambda value: is_int_tuple(value) and value and set(value) <= {0, 1, 2} and len(set(value)) == len(value),
            (0, 1, 0), (3,), (0, 3), (0, -1), [0, 1], (0, True), (0, None), ([0],),
        )
        self.checks_arguments(POOL.picked, [(0,)], [(InvalidOperation, wrong)])

    def test_with_web(self):
        self.assertEqual(POOL.with_web(RIGHT).webs, (*POOL.webs, RIGHT))
        self.assertEqual(len(POOL), 3)
        self.checks_arguments(POOL.with_web, [RIGHT], [(InvalidWeb, not_webs(2))])
        for web in POOL.webs:
            self.fails(InvalidOperation, POOL.with_web, web)
        full = Pool(EIGHTY)
        self.fails(InvalidOperation, full.with_web, EIGHTY[3])
        self.fails(InvalidWeb, full.with_web, silent_web(3))
        self.fails_keeping(TooMany, 80, full.with_web, BOTH)
        self.assertEqual(len(Pool(EIGHTY[1:]).with_web(BOTH)), 80)

    def test_without_web(self):
        for index in range(3):
            left = tuple(web for at, web in enumerate(POOL.webs) if at != index)
            self.assertEqual(POOL.without_web(index).webs, left)
        self.checks_arguments(POOL.without_web, [0], [(InvalidNumber, not_numbers(0, 2))])
        single = Pool((RIGHT,))
        self.fails(InvalidOperation, single.without_web, 0)
        self.checks_arguments(single.without_web, [0], [(InvalidNumber, not_numbers(0, 0))])

    def test_unmarked(self):
        pool = Pool((BOTH.with_mark(0, 1), RIGHT, BOTH, RIGHT.with_mark(1, 2), LEFT.with_mark(0, 9999)))
        self.assertEqual(pool.unmarked().webs, (BOTH, RIGHT, LEFT))
        self.assertEqual(Pool(EIGHTY).unmarked().webs, (NONE,))

    def test_renumbered(self):
        pool = Pool((LEFT.with_mark(0, 3), BOTH, RIGHT))
        self.assertEqual(pool.renumbered((1, 0)).webs, (RIGHT.with_mark(1, 3), BOTH, LEFT))
        self.assertEqual(pool.renumbered((0, 1)), pool)
        wrong = wrong_where(lambda value: is_int_tuple(value) and sorted(value) == [0, 1], (True, 0), [0, 1], (1, 2))
        self.checks_arguments(pool.renumbered, [(0, 1)], [(InvalidOperation, wrong)])

    def test_merged(self):
        other = Pool((RIGHT, BOTH, RIGHT.with_mark(1, 4), NONE))
        self.assertEqual(POOL.merged(other).webs, (*POOL.webs, RIGHT, NONE))
        self.assertEqual(POOL.merged(POOL), POOL)
        self.assertEqual(len(Pool(EIGHTY).merged(Pool(EIGHTY[::-1]))), 80)
        self.assertEqual(len(Pool(EIGHTY[:40]).merged(Pool(EIGHTY[40:]))), 80)
        self.fails_keeping(TooMany, 80, Pool(EIGHTY).merged, Pool((EIGHTY[0], BOTH)))
        self.fails(InvalidPool, Pool(EIGHTY).merged, star_pool(3))

    def test_is_within(self):
        pools = [Pool(webs) for many in (1, 2, 3) for webs in permutations((RIGHT, LEFT, RIGHT.with_mark(0, 1)), many)]
        for one, other in product(pools, repeat=2):
            self.assertIs(one.is_within(other), all(any(web == each for each in other.webs) for web in one.webs))

    def test_pools_that_do_not_fit(self):
        wrong = [*not_pools(), star_pool(3), snap_pool(1), POOL.webs]
        for call in (POOL.merged, POOL.is_within):
            self.checks_arguments(call, [POOL], [(InvalidPool, wrong)])

    def test_items(self):
        self.assertEqual([POOL[index] for index in range(3)], list(POOL.webs))
        self.checks_arguments(POOL.__getitem__, [0], [(InvalidNumber, not_numbers(0, 2))])
        with self.assertRaises(InvalidNumber):
            POOL[-1]
        self.assertEqual((list(POOL), len(POOL)), (list(POOL.webs), 3))
        one, two = iter(POOL), iter(POOL)
        self.assertEqual((next(one), next(one), next(two)), (LEFT, BOTH, LEFT))

    def test_webs_in_a_pool(self):
        for web in (*POOL.webs, RIGHT, NONE, BOTH.with_mark(0, 1), silent_web(3), *ALL3[:3]):
            self.assertIs(web in POOL, any(web == each for each in POOL.webs))
        for value in [*WRONG, BOTH.heard, POOL, 0, (BOTH,), [BOTH]]:
            self.assertIs(value in POOL, any(value is each or value == each for each in POOL.webs))

    def test_equality(self):
        pools = [Pool(webs) for many in (1, 2) for webs in permutations((RIGHT, LEFT, RIGHT.with_mark(0, 1)), many)]
        for one, other in product(range(len(pools)), repeat=2):
            self.assertIs(pools[one] == Pool(tuple(list(pools[other]))), one == other)
            self.assertIs(pools[one] != Pool(tuple(list(pools[other]))), one != other)
        for value in [*WRONG, POOL.webs, list(POOL.webs)]:
            self.assertIs(POOL == value, False)
            self.assertIs(POOL != value, True)

    def test_texts(self):
        self.assertEqual(str(POOL), "pool of 3 webs of 2 threads")
        self.assertEqual(str(snap_pool(1)), "pool of 1 webs of 1 threads")


class NamedPoolsTest(Case):
    def test_snap_pools(self):
        for size, many in ((1, 1), (2, 3), (3, 13), (4, 75)):
            pool = snap_pool(size)
            self.assertEqual((len(pool), pool.size, pool.is_rooted, pool.is_marked), (many, size, True, False))
            told = set()
            for ranks in product(range(size), repeat=size):
                told.add(tuple(
                    tuple(o for o in range(size) if o != t and ranks[o] <= ranks[t]) for t in range(size)))
            self.assertEqual([web.heard for web in pool], sorted(told))
        self.assertEqual({web.heard for web in snap_pool(2)}, {web.heard for web in pair_pool("RLB")})

    def test_each_snap_web_is_of_one_ordered_parting(self):
        blocks = tuple((thread,) for thread in (2, 0, 1))
        self.assertIn(parting_web(blocks), snap_pool(3))
        self.assertNotIn(chain_web(3, 0), snap_pool(3))

    def test_star_and_chain_pools(self):
        for size in range(1, 6):
            self.assertEqual(star_pool(size).webs, tuple(star_web(size, center) for center in range(size)))
            self.assertEqual(chain_pool(size).webs, tuple(chain_web(size, first) for first in range(size)))

    def test_wrong_sizes(self):
        self.checks_arguments(snap_pool, [2], [(InvalidNumber, not_numbers(1, 4))])
        for call in (star_pool, chain_pool):
            self.checks_arguments(call, [2], [(InvalidNumber, not_numbers(1, 5))])

    def test_pair_pools(self):
        webs = {"R": RIGHT, "L": LEFT, "B": BOTH, "N": NONE}
        for many in range(1, 5):
            for letters in permutations("RLBN", many):
                self.assertEqual(pair_pool("".join(letters)).webs, tuple(webs[letter] for letter in letters))

    def test_wrong_letters(self):
        def looks_right(value):
            return type(value) is str and 0 < len(value) == len(set(value)) and set(value) <= set("RLBN")

        more = ("RR", "RLBNR", "RLBB", "r", "R L", "RX", ("R",), ["R", "L"], ("R", "L"), {"R": 1}, 1, "RLNBX")
        self.checks_arguments(pair_pool, ["R"], [(InvalidOperation, wrong_where(looks_right, *more))])

    def test_pools_are_made_anew(self):
        for one, other in combinations((snap_pool(3), snap_pool(3), Pool(snap_pool(3).webs)), 2):
            self.assertEqual(one, other)
        self.assertTrue(all(is_int(index) for index in (snap_pool(3).index_of(web) for web in snap_pool(3))))
