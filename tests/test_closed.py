"""Part 3b: closed groups, with [3.2] to [3.5]."""

from itertools import combinations

from poolmaps.base.pools import Pool, chain_pool, pair_pool, snap_pool, star_pool
from poolmaps.base.webs import Web, full_web, silent_web
from poolmaps.errors import InvalidOperation, InvalidPool
from poolmaps.groups.closed import (
    agreement_certificate, can_agree, common_roots, is_agreement_certificate, is_closed, is_obstacle, obstacle,
    splitting, splitting_steps,
)
from tests.reckoning import (
    all_groups, looks_like_group, slow_agree_in, slow_common_roots, slow_is_certificate, slow_parts, slow_steps,
)
from tests.support import ALL3, Case, near_values, not_pools, pair_pools, small_pools, triple_pools
from tests.test_links import not_groups

POOL, PAIR = pair_pool("RLB"), pair_pool("RL")
GREAT = snap_pool(4)
EIGHTY = Pool(tuple(full_web(2).with_mark(0, mark).with_mark(1, mark) for mark in range(80)))
NO_POOLS = (InvalidPool, not_pools())


def pools():
    return [*small_pools()[::2], *pair_pools(), *triple_pools(2003, 3), *triple_pools(40009, 4)]


def is_slow_obstacle(pool, value):
    return (looks_like_group(pool, value) and len(slow_parts(pool, value)) == 1
            and not slow_common_roots(pool, value))


class ClosedTest(Case):
    def test_groups(self):
        for pool in pools():
            for group in all_groups(pool):
                self.assertEqual(common_roots(pool, group), slow_common_roots(pool, group))
                self.assertIs(is_closed(pool, group), len(slow_parts(pool, group)) == 1)
                self.assertIs(is_obstacle(pool, group), is_slow_obstacle(pool, group))

    def test_values_near_groups(self):
        for group in ((0, 1, 2), (1, 2), (0,)):
            for value in near_values(group):
                told = looks_like_group(POOL, value) and len(slow_parts(POOL, value)) == 1
                self.assertIs(is_closed(POOL, value), told)
                self.assertIs(is_obstacle(POOL, value), is_slow_obstacle(POOL, value))
        for call in (is_closed, is_obstacle, is_agreement_certificate):
            self.judges(call, [POOL])
            self.judges(call, [snap_pool(1)])
            self.checks_arguments(call, [POOL, None], [NO_POOLS, None])

    def test_wrong_arguments(self):
        self.checks_arguments(common_roots, [POOL, (0,)], [NO_POOLS, not_groups(POOL)])
        for call in (splitting, splitting_steps, can_agree, obstacle, agreement_certificate):
            self.checks_arguments(call, [PAIR], [NO_POOLS])

    def test_splitting(self):
        for pool in pools():
            steps = slow_steps(pool)
            self.assertEqual(splitting_steps(pool), steps)
            self.assertEqual(splitting(pool), steps[-1])
        self.assertEqual(splitting_steps(snap_pool(1)), (((0,),),))
        self.assertEqual(splitting_steps(PAIR), (((0, 1),), ((0,), (1,))))

    def test_some_splitting_has_more_than_two_steps(self):
        self.assertTrue(any(len(splitting_steps(pool)) > 2 for pool in triple_pools(41, 3)))

    def test_closed_groups_lie_within_the_splitting_and_join(self):
        for pool in pools():
            closed = [group for group in all_groups(pool) if is_closed(pool, group)]
            ends = splitting(pool)
            for group in closed:
                self.assertTrue(any(set(group) <= set(end) for end in ends))
            for one, other in combinations(closed, 2):
                if set(one) & set(other):
                    self.assertIn(tuple(sorted({*one, *other})), closed)

    def test_agreement_three_ways(self):
        for pool in pools():
            barred = [group for group in all_groups(pool) if is_slow_obstacle(pool, group)]
            agrees = all(slow_common_roots(pool, group) for group in slow_steps(pool)[-1])
            self.assertIs(agrees, not barred)
            self.assertIs(can_agree(pool), agrees)
            if agrees:
                told = agreement_certificate(pool)
                self.assertTrue(slow_is_certificate(pool, told))
                self.assertTrue(is_agreement_certificate(pool, told))
                self.fails(InvalidOperation, obstacle, pool)
            else:
                self.assertIn(obstacle(pool), barred)
                self.assertTrue(is_obstacle(pool, obstacle(pool)))
                self.fails(InvalidOperation, agreement_certificate, pool)

    def test_agreement_by_all_runs(self):
        for pool in [*pair_pools(), *triple_pools(31)]:
            most = 3 if len(pool) < 4 else 2
            told = any(slow_agree_in(pool, rounds) for rounds in range(most + 1))
            self.assertIs(can_agree(pool), told)

    def test_more_inputs_and_fewer_webs(self):
        for pool in pair_pools():
            for group in all_groups(pool):
                less = pool.picked(group)
                self.assertTrue(can_agree(less) or not can_agree(pool))
            if can_agree(pool):
                self.assertTrue(slow_agree_in(pool, 2, 3))

    def test_certificates_made_by_hand(self):
        last = ((0,), (1,))
        for levels in (((((0, 1),)), last), (((0, 1),), ((0, 1),), last, last), (((0, 1),),) * 50 + (last,) * 50):
            self.assertTrue(slow_is_certificate(PAIR, (levels, (0, 1))))
            self.assertIs(is_agreement_certificate(PAIR, (levels, (0, 1))), True)
        for levels in (((((0, 1),)), last[::-1]), (last,), (((0, 1),),), (((0, 1),),) * 51 + (last,) * 50,
                       (((0, 1),), last, ((0, 1),), last), (), (((0, 1),), ((0,),)), (((0, 1),), ((0,), (0, 1)))):
            for roots in ((0, 1), (0,), ()):
                self.assertIs(is_agreement_certificate(PAIR, (levels, roots)), False)
        for roots in ((1, 0), (0, 0), (0,), (0, 1, 0), [0, 1], (0, True), (0, 2), (0, -1), None):
            self.assertIs(is_agreement_certificate(PAIR, ((((0, 1),), last), roots)), False)
        both = pair_pool("RB")
        self.assertIs(is_agreement_certificate(both, ((((0, 1),),), (0,))), True)
        self.assertIs(is_agreement_certificate(both, ((((0, 1),),), (1,))), False)
        self.assertIs(is_agreement_certificate(both, ((((0, 1),), ((0,), (1,))), (0, 1))), slow_is_certificate(
            both, ((((0, 1),), ((0,), (1,))), (0, 1))))

    def test_coarser_certificates(self):
        for pool in triple_pools(101, 3):
            if not can_agree(pool):
                continue
            for level in [splitting(pool), ((0, 1, 2),), ((0,), (1, 2)), ((0, 1), (2,)), ((0, 2), (1,)), ((0,), (1,), (2,))]:
                for root in range(3):
                    roots = tuple((*slow_common_roots(pool, group), root)[0] for group in level)
                    for levels in ((((0, 1, 2),), level), (((0, 1, 2),), splitting(pool), level), (level,)):
                        told = slow_is_certificate(pool, (levels, roots))
                        self.assertIs(is_agreement_certificate(pool, (levels, roots)), told)

    def test_values_near_certificates(self):
        for pool in (PAIR, pair_pool("RB"), star_pool(3), chain_pool(3), snap_pool(1), Pool((ALL3[9], ALL3[21], ALL3[33]))):
            if can_agree(pool):
                for value in near_values(agreement_certificate(pool)):
                    self.assertIs(is_agreement_certificate(pool, value), slow_is_certificate(pool, value))

    def test_great_pools(self):
        whole = tuple(range(75))
        self.assertEqual((splitting_steps(GREAT), can_agree(GREAT), obstacle(GREAT)), (((whole,),), False, whole))
        self.assertTrue(is_obstacle(GREAT, whole))
        self.assertEqual(common_roots(GREAT, whole), ())
        self.assertEqual(splitting(EIGHTY), tuple((index,) for index in range(80)))
        told = agreement_certificate(EIGHTY)
        self.assertTrue(is_agreement_certificate(EIGHTY, told))
        self.assertTrue(is_agreement_certificate(EIGHTY, ((told[0][0],) * 99 + told[0][1:], (0,) * 40 + (1,) * 40)))
        self.assertFalse(is_agreement_certificate(EIGHTY, (told[0][:1] * 100 + told[0][1:], told[1])))

    def test_one_thread_and_one_web(self):
        for pool in (snap_pool(1), Pool((Web(((),), (5,)), Web(((),))))):
            self.assertTrue(can_agree(pool))
            self.assertTrue(is_agreement_certificate(pool, agreement_certificate(pool)))
        for web in ALL3:
            pool = Pool((web,))
            self.assertEqual(splitting(pool), ((0,),))
            self.assertIs(can_agree(pool), bool(web.roots))
        self.assertEqual(obstacle(Pool((silent_web(5),))), (0,))
