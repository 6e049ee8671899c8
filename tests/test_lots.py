"""Part 2c: lots, with [0.11] and [2.6]."""

from itertools import product

from poolmaps.base.pools import Pool, pair_pool, snap_pool, star_pool
from poolmaps.base.webs import silent_web
from poolmaps.errors import InvalidNumber, InvalidOperation, InvalidPool, InvalidWord, TooMany
from poolmaps.known.lots import is_lot_way, lot_of, lot_way, lots_of
from tests.support import (
    Case, is_int, long_pool, looks_like_word, near_values, not_numbers, not_pools, not_words, plain_words, slow_lots,
    slow_sight, small_pools,
)

POOL = pair_pool("RLB")
GREAT = snap_pool(4)
MANY = tuple(silent_web(2).with_mark(0, mark) for mark in range(80))
PATH = Pool(tuple(silent_web(2).with_mark(0, i // 2).with_mark(1, (i + 1) // 2) for i in range(54)))
NO_POOLS = (InvalidPool, not_pools())


def slow_is_way(pool, one, other, value):
    """The definition of a way, by whole sights."""
    if type(value) is not tuple:
        return False
    for step in value:
        if type(step) is not tuple or len(step) != 2:
            return False
        thread, word = step
        if not is_int(thread) or not 0 <= thread < pool.size or not looks_like_word(pool, word):
            return False
        if len(word) != len(one) or slow_sight(pool, one, thread) != slow_sight(pool, word, thread):
            return False
        one = word
    return one == other


class LotsTest(Case):
    def test_lots_of_small_pools(self):
        for pool in small_pools():
            for rounds in range(3 if len(pool) > 2 or pool.size > 2 else 4):
                told = slow_lots(pool, rounds)
                self.assertEqual(lots_of(pool, rounds), told)
                for lot in told:
                    for word in lot:
                        self.assertEqual(lot_of(pool, word), lot)

    def test_no_round_and_six(self):
        self.assertEqual(lots_of(GREAT, 0), (((),),))
        self.assertEqual(lot_of(GREAT, ()), ((),))
        self.assertEqual(lots_of(POOL, 6), (tuple(plain_words(POOL, 6)),))
        self.assertEqual(lots_of(snap_pool(1), 6), (((0,) * 6,),))
        ends = pair_pool("RL")
        self.assertEqual(lots_of(ends, 6), tuple((word,) for word in plain_words(ends, 6)))

    def test_lots_of_a_pool_of_many_webs(self):
        single = Pool(MANY[:54])
        self.assertEqual(len(lots_of(single, 2)), 1)
        both = Pool(tuple(web.with_mark(1, index) for index, web in enumerate(MANY[:54])))
        self.assertEqual(lots_of(both, 2), tuple((word,) for word in plain_words(both, 2)))
        self.assertEqual(lots_of(PATH, 2), (tuple(plain_words(PATH, 2)),))

    def test_ways_of_small_pools(self):
        for pool in small_pools()[::2]:
            for rounds in range(3):
                for one, other in product(plain_words(pool, rounds), repeat=2):
                    if other in lot_of(pool, one):
                        way = lot_way(pool, one, other)
                        self.assertTrue(slow_is_way(pool, one, other, way))
                        self.assertIs(is_lot_way(pool, one, other, way), True)
                        self.assertLessEqual(len(way), 3000)
                        self.assertIs(is_lot_way(pool, one, other, ()), one == other)
                    else:
                        self.fails(InvalidOperation, lot_way, pool, one, other)

    def test_long_ways(self):
        way = lot_way(PATH, (0, 0), (53, 53))
        self.assertTrue(slow_is_way(PATH, (0, 0), (53, 53), way))
        self.assertTrue(is_lot_way(PATH, (0, 0), (53, 53), way))
        self.assertTrue(is_lot_way(POOL, (0,), (1,), ((1, (2,)), (0, (1,))) + ((0, (2,)), (0, (1,))) * 9000))
        self.assertFalse(is_lot_way(POOL, (0,), (1,), ((1, (2,)), (0, (1,))) + ((1, (2,)), (0, (1,))) * 9000))

    def test_ways_of_nearly_three_thousand_steps(self):
        pool = long_pool()
        way = lot_way(pool, (0, 0), (52, 52))
        self.assertEqual((len(way), len(lot_of(pool, (9, 9)))), (2808, 2809))
        self.assertTrue(slow_is_way(pool, (0, 0), (52, 52), way))
        self.assertIs(is_lot_way(pool, (0, 0), (52, 52), way), True)
        self.assertIs(is_lot_way(pool, (0, 0), (52, 52), way[:1400] + way[1401:]), False)

    def test_ways_that_stay_or_turn_back(self):
        for way in (((0, (0,)),), ((1, (0,)), (0, (0,))), ((1, (2,)), (0, (2,)), (1, (0,)))):
            self.assertIs(is_lot_way(POOL, (0,), (0,), way), True)
        self.assertIs(is_lot_way(POOL, (0,), (1,), ((0, (1,)), (1, (2,)))), False)

    def test_values_near_ways(self):
        cases = [(POOL, (0,), (1,)), (POOL, (0, 2), (1, 1)), (PATH, (0,), (4,)), (star_pool(3), (0,), (2,))]
        for pool, one, other in cases:
            if other not in lot_of(pool, one):
                continue
            way = lot_way(pool, one, other)
            for value in near_values(way):
                self.assertIs(is_lot_way(pool, one, other, value), slow_is_way(pool, one, other, value))

    def test_words_of_different_lengths(self):
        self.fails(InvalidOperation, lot_way, POOL, (0,), (0, 0))
        self.fails(InvalidOperation, lot_way, POOL, (), (0,))
        for value in ((), ((0, (0, 0)),), ((0, (0,)),)):
            self.assertIs(is_lot_way(POOL, (0,), (0, 0), value), False)

    def test_wrong_arguments(self):
        rounds, words = (InvalidNumber, not_numbers(0, 6)), (InvalidWord, not_words(POOL))
        self.checks_arguments(lots_of, [POOL, 1], [NO_POOLS, rounds])
        self.checks_arguments(lot_of, [POOL, (0,)], [NO_POOLS, words])
        self.checks_arguments(lot_way, [POOL, (0,), (0, 0)], [NO_POOLS, words, words])
        self.checks_arguments(is_lot_way, [POOL, (0,), (1,), ()], [NO_POOLS, words, words, None])
        self.judges(is_lot_way, [POOL, (0,), (1,)])

    def test_too_many_words(self):
        pool = Pool(MANY[:55])
        self.fails_keeping(TooMany, 3000, lots_of, pool, 2)
        self.fails_keeping(TooMany, 3000, lot_of, pool, (0, 0))
        for other in ((0, 0), (54, 1), (0,), ()):
            self.fails_keeping(TooMany, 3000, lot_way, pool, (0, 0), other)
            self.fails_keeping(TooMany, 3000, is_lot_way, pool, (0, 0), other, ())
        self.fails(InvalidOperation, lot_way, pool, (0,), (0, 0))
        self.assertIs(is_lot_way(pool, (0,), (0, 0), ()), False)
        self.assertIs(is_lot_way(pool, (0,), (54,), ((1, (54,)),)), True)
        self.checks_arguments(is_lot_way, [pool, (0, 0), (0, 0), ()], [
            NO_POOLS, (InvalidWord, not_words(pool)), (InvalidWord, not_words(pool)), None])
        self.checks_arguments(lots_of, [pool, 2], [NO_POOLS, (InvalidNumber, not_numbers(0, 6))])
        self.fails_keeping(TooMany, 3000, lots_of, GREAT, 6)
