"""Part 3d: sieves, with [3.2] and [3.5]."""

from itertools import combinations
from random import Random

from poolmaps.base.pools import Pool, chain_pool, pair_pool, snap_pool, star_pool
from poolmaps.base.webs import Web, silent_web
from poolmaps.errors import InvalidNumber, InvalidOperation, InvalidPool, NothingToUndo, TooMany
from poolmaps.groups.sieves import Sieve, fewest_out, is_fewest_out
from tests.reckoning import slow_common_roots, slow_steps
from tests.support import (
    ALL3, WRONG, Case, is_int, is_int_tuple, near_values, not_numbers, not_pools, small_pools, triple_pools,
    wrong_where,
)

POOL = pair_pool("RLB")
NO_POOLS = (InvalidPool, not_pools())
TEN = Pool(tuple(ALL3[at] for at in (0, 1, 5, 7, 12, 20, 33, 40, 51, 63)))


def slow_groups(pool, indices):
    groups = slow_steps(pool.picked(indices))[-1]
    return tuple(tuple(indices[at] for at in group) for group in groups)


def slow_agrees(pool, indices):
    return all(slow_common_roots(pool, group) for group in slow_groups(pool, indices))


def sieve_with(pool, indices):
    sieve = Sieve(pool)
    for index in range(len(pool.webs)):
        if index not in indices:
            sieve.take_out(index)
    return sieve


def all_slow_fewest(pool):
    """All shortest tuples of indices without which the pool can agree."""
    whole = range(len(pool.webs))
    for many in range(len(pool.webs)):
        found = [out for out in combinations(whole, many) if slow_agrees(pool, tuple(i for i in whole if i not in out))]
        if found:
            return found
    return []


class SieveTest(Case):
    def checks_state(self, sieve, pool, indices):
        agrees = slow_agrees(pool, indices)
        self.assertEqual((sieve.pool, sieve.indices, sieve.groups), (pool, indices, slow_groups(pool, indices)))
        self.assertIs(sieve.verdict, agrees)
        self.assertIs(bool(sieve), agrees)
        self.assertEqual((len(sieve), list(sieve), tuple(sieve)), (len(indices), list(indices), indices))
        answer = "yes" if agrees else "no"
        self.assertEqual(str(sieve), f"sieve of {len(indices)} of {len(pool.webs)} webs: {answer}")
        for index in range(len(pool.webs)):
            self.assertIs(index in sieve, index in indices)

    def test_a_sieve_begins_with_all_webs(self):
        for pool in small_pools():
            self.checks_state(Sieve(pool), pool, tuple(range(len(pool.webs))))
        self.checks_arguments(Sieve, [POOL], [NO_POOLS])

    def test_drawn_histories(self):
        drawn = Random(3)
        for pool in (POOL, pair_pool("RLBN"), TEN, star_pool(3), snap_pool(1), *triple_pools(5003, 4)):
            sieve, past = Sieve(pool), [tuple(range(len(pool.webs)))]
            for _ in range(25):
                what = drawn.choice(("out", "back", "undo", "twin"))
                now = past[-1]
                outside = [index for index in range(len(pool.webs)) if index not in now]
                if what == "out" and len(now) > 1:
                    index = drawn.choice(now)
                    past.append(tuple(each for each in now if each != index))
                    self.assertIs(sieve.take_out(index), slow_agrees(pool, past[-1]))
                elif what == "back" and outside:
                    index = drawn.choice(outside)
                    past.append(tuple(sorted((*now, index))))
                    self.assertIs(sieve.put_back(index), slow_agrees(pool, past[-1]))
                elif what == "undo":
                    many = drawn.randrange(len(past))
                    past = past[:len(past) - many]
                    self.assertIs(sieve.undo(many=many), slow_agrees(pool, past[-1]))
                elif what == "twin":
                    elder, sieve = sieve, sieve.twin()
                    self.assertEqual(elder, sieve)
                    if len(now) > 1:
                        elder.take_out(now[0])
                    elder.undo(many=min(len(past) - 1, 2))
                self.checks_state(sieve, pool, past[-1])
                self.assertEqual(sieve, sieve_with(pool, past[-1]))
                self.fails_keeping(NothingToUndo, len(past), sieve.undo, many=len(past))

    def test_undo_takes_back_both_kinds_of_changes(self):
        sieve = Sieve(POOL)
        sieve.take_out(2)
        sieve.put_back(2)
        sieve.take_out(0)
        self.assertEqual((sieve.undo(many=2), sieve.indices), (True, (0, 1)))
        self.assertEqual((sieve.undo(), sieve.indices), (False, (0, 1, 2)))
        self.fails_keeping(NothingToUndo, 1, sieve.undo)
        self.assertIs(sieve.undo(many=0), False)

    def test_wrong_indices(self):
        sieve = Sieve(POOL)
        sieve.take_out(1)
        for value in not_numbers(0, 2):
            self.fails_keeping(InvalidNumber, value, sieve.take_out, value)
            self.fails_keeping(InvalidNumber, value, sieve.put_back, value)
        self.fails_keeping(InvalidNumber, 1, sieve.take_out, 1)
        for index in (0, 2):
            self.fails_keeping(InvalidNumber, index, sieve.put_back, index)
        sieve.take_out(0)
        self.fails(InvalidOperation, sieve.take_out, 2)
        self.fails_keeping(InvalidNumber, 0, sieve.take_out, 0)
        self.fails_keeping(InvalidNumber, False, sieve.put_back, False)
        self.assertEqual((sieve.indices, sieve.undo(), sieve.indices), ((2,), True, (0, 2)))
        self.fails(InvalidOperation, Sieve(snap_pool(1)).take_out, 0)

    def test_wrong_many(self):
        sieve = Sieve(POOL)
        sieve.take_out(0)
        for value in wrong_where(lambda value: is_int(value) and 0 <= value < 10 ** 60):
            self.fails_keeping(InvalidNumber, value, sieve.undo, many=value)
        for value in (2, 10 ** 60 - 1):
            self.fails_keeping(NothingToUndo, value, sieve.undo, many=value)
        self.assertEqual(sieve.indices, (1, 2))

    def test_equality_and_membership(self):
        sieves = [sieve_with(pool, indices) for pool in (POOL, pair_pool("LRB"), star_pool(3))
                  for indices in ((0, 1, 2), (0, 1), (2,))]
        for at, one in enumerate(sieves):
            for place, other in enumerate(sieves):
                self.assertIs(one == other.twin(), at == place)
                self.assertIs(one != other.twin(), at != place)
        for value in [*WRONG, (0, 1), POOL]:
            self.assertIs(sieves[1] == value, False)
            self.assertIs(value in sieves[1], is_int(value) and value in (0, 1))
        again = Sieve(POOL)
        again.take_out(2)
        again.put_back(2)
        self.assertEqual(again, sieves[0])

    def test_fewest_out(self):
        pools = [*small_pools(), *triple_pools(1501, 3), *triple_pools(30011, 4), chain_pool(3)]
        for pool in pools:
            found = all_slow_fewest(pool)
            if not found:
                self.fails(InvalidOperation, fewest_out, pool)
                self.assertFalse(any(web.roots for web in pool.webs))
            else:
                self.assertIn(fewest_out(pool), found)
            whole = range(len(pool.webs))
            for many in range(len(pool.webs) + 1):
                for value in combinations(whole, many):
                    self.assertIs(is_fewest_out(pool, value), value in found)

    def test_ten_webs_and_no_more(self):
        found = all_slow_fewest(TEN)
        self.assertIn(fewest_out(TEN), found)
        self.assertTrue(is_fewest_out(TEN, found[-1]))
        self.assertFalse(is_fewest_out(TEN, tuple(range(10))))
        more = TEN.with_web(ALL3[62])
        self.fails_keeping(TooMany, 10, fewest_out, more)
        self.fails_keeping(TooMany, 10, is_fewest_out, more, None)
        silent = Pool(tuple(silent_web(2).with_mark(0, mark) for mark in range(11)))
        self.fails(InvalidOperation, fewest_out, silent)
        self.fails_keeping(TooMany, 10, is_fewest_out, silent, ())
        self.assertFalse(is_fewest_out(Pool(silent.webs[:10]), ()))
        self.fails(InvalidOperation, fewest_out, Pool(silent.webs[:10]))

    def test_values_near_the_fewest(self):
        for pool in (POOL, pair_pool("RL"), pair_pool("RLBN"), snap_pool(1)):
            found = all_slow_fewest(pool)
            for value in [*near_values(found[0]), *near_values(found[-1])]:
                self.assertIs(is_fewest_out(pool, value), is_int_tuple(value) and value in found)
            self.judges(is_fewest_out, [pool])
        for call in (fewest_out, is_fewest_out):
            self.checks_arguments(call, [POOL, None][:1 + (call is is_fewest_out)], [NO_POOLS, None][:1])

    def test_a_great_pool(self):
        sieve = Sieve(snap_pool(4))
        self.assertEqual((len(sieve), sieve.take_out(74), len(sieve.groups)), (75, False, 1))
        self.assertEqual(Sieve(Pool((Web(((),)),))).groups, ((0,),))
