"""Part 3a: links, with [3.1]."""

from itertools import product

from poolmaps.base.pools import Pool, pair_pool, snap_pool, star_pool
from poolmaps.base.webs import silent_web
from poolmaps.errors import InvalidNumber, InvalidOperation, InvalidPool
from poolmaps.groups.links import alike, is_link, is_linked_way, linked_way, links_in, parts_of
from tests.reckoning import all_groups, looks_like_group, slow_alike, slow_is_linked_way, slow_links, slow_parts
from tests.support import (
    WRONG, Case, is_int, is_int_tuple, near_values, not_numbers, not_pools, small_pools, triple_pools, wrong_where,
)

POOL = pair_pool("RLB")
FOUR = pair_pool("RLBN")
GREAT = snap_pool(4)
EIGHTY = Pool(tuple(silent_web(1).with_mark(0, mark) for mark in range(80)))
CHAINED = Pool(tuple(
    pair_pool("B")[0].with_mark(0, i // 2).with_mark(1, (i + 1) // 2) for i in range(78)) + pair_pool("RL").webs)
NO_POOLS = (InvalidPool, not_pools())


def not_groups(pool):
    more = ((), (1, 0), (0, 0), (0, 3), (3,), (-1, 0), [0], (True,), (0, True), {0: 1}, (0, None), "0", ((0,),), (0, 80))
    return (InvalidOperation, wrong_where(lambda value: looks_like_group(pool, value), *more))


def not_members(group):
    return (InvalidNumber, wrong_where(lambda value: is_int(value) and value in group, -1, 3, 79, 81))


def pools():
    return [*small_pools()[::2], *triple_pools(2003, 3), FOUR]


class LinksTest(Case):
    def test_alike(self):
        for pool in pools():
            for one, other, third in product(range(len(pool)), repeat=3):
                self.assertIs(alike(pool, one, other, third), slow_alike(pool, one, other, third))
        indices = (InvalidNumber, not_numbers(0, 2))
        self.checks_arguments(alike, [POOL, 0, 1, 2], [NO_POOLS, indices, indices, indices])

    def test_a_web_without_a_root_makes_nothing_alike(self):
        self.assertIs(alike(FOUR, 0, 0, 3), False)
        self.assertIs(alike(FOUR, 3, 3, 0), True)
        self.assertIs(alike(FOUR, 1, 3, 2), False)

    def test_links(self):
        for pool in pools():
            for group in all_groups(pool):
                told = slow_links(pool, group)
                self.assertEqual(links_in(pool, group), tuple(told))
                for value in product(range(-1, len(pool) + 1), repeat=3):
                    self.assertIs(is_link(pool, group, value), value in told)

    def test_values_near_links(self):
        for value in [*near_values((0, 2, 1)), *near_values((1, 2, 0))]:
            told = value in [(0, 2, 1), (1, 2, 0)] and is_int_tuple(value)
            self.assertIs(is_link(POOL, (0, 1, 2), value), told)
        self.judges(is_link, [POOL, (0, 1, 2)])
        self.assertIs(is_link(POOL, (0, 2), (0, 2, 1)), False)

    def test_wrong_arguments(self):
        groups, members = not_groups(POOL), not_members((0, 1, 2))
        self.checks_arguments(links_in, [POOL, (0, 1)], [NO_POOLS, groups])
        self.checks_arguments(parts_of, [POOL, (0, 1)], [NO_POOLS, groups])
        self.checks_arguments(is_link, [POOL, (0, 1), None], [NO_POOLS, groups, None])
        for call, more in ((linked_way, []), (is_linked_way, [()])):
            wrong = [NO_POOLS, groups, members, members]
            self.checks_arguments(call, [POOL, (0, 1, 2), 0, 2, *more], wrong + [None] * len(more))
            self.fails_keeping(InvalidNumber, 1, call, POOL, (0, 2), 1, 5, *more)
            self.fails_keeping(InvalidNumber, 1, call, POOL, (0, 2), 0, 1, *more)
            self.fails_keeping(InvalidNumber, True, call, POOL, (0, 1), True, 1, *more)

    def test_linked_ways(self):
        for pool in pools():
            for group in all_groups(pool):
                place = {index: part for part in slow_parts(pool, group) for index in part}
                for one, other in product(group, repeat=2):
                    if place[one] != place[other]:
                        self.fails(InvalidOperation, linked_way, pool, group, one, other)
                        continue
                    way = linked_way(pool, group, one, other)
                    self.assertTrue(slow_is_linked_way(pool, group, one, other, way))
                    self.assertTrue(is_linked_way(pool, group, one, other, way))
                    self.assertLessEqual(len(way), 80)
                    self.assertIs(is_linked_way(pool, group, one, other, ()), one == other)

    def test_values_near_linked_ways(self):
        for pool, group, one, other in ((POOL, (0, 1, 2), 0, 1), (POOL, (0, 1, 2), 2, 0), (FOUR, (0, 1, 2, 3), 1, 0),
                                        (snap_pool(3), tuple(range(13)), 0, 12)):
            for value in near_values(linked_way(pool, group, one, other)):
                told = slow_is_linked_way(pool, group, one, other, value)
                self.assertIs(is_linked_way(pool, group, one, other, value), told)
        self.judges(is_linked_way, [POOL, (0, 1, 2), 0, 1])

    def test_a_step_leads_to_another_index_by_a_web_of_the_group(self):
        group = (0, 1, 2)
        self.assertIs(is_linked_way(POOL, group, 0, 0, ((1, 0),)), False)
        self.assertIs(is_linked_way(POOL, group, 0, 0, ((1, 2), (1, 0))), True)
        self.assertIs(is_linked_way(POOL, (0, 2), 0, 2, ((1, 2),)), False)
        self.assertIs(is_linked_way(POOL, group, 0, 2, ((1, 2), (1, 0)) * 2000 + ((1, 2),)), True)

    def test_long_ways(self):
        group = tuple(range(80))
        way = linked_way(CHAINED, group, 0, 77)
        self.assertEqual(len(way), 77)
        self.assertTrue(slow_is_linked_way(CHAINED, group, 0, 77, way))
        self.assertTrue(is_linked_way(CHAINED, group, 0, 77, way))

    def test_parts(self):
        for pool in pools():
            for group in all_groups(pool):
                self.assertEqual(parts_of(pool, group), slow_parts(pool, group))
        self.assertEqual(parts_of(EIGHTY, tuple(range(80))), tuple((index,) for index in range(80)))
        self.assertEqual(parts_of(star_pool(1), (0,)), ((0,),))

    def test_great_pools(self):
        group = tuple(range(75))
        self.assertEqual(parts_of(GREAT, group), (group,))
        links = links_in(GREAT, group)
        self.assertEqual(list(links), sorted(set(links)))
        some = (0, 17, 33, 50, 74)
        self.assertEqual(links_in(GREAT, some), tuple(slow_links(GREAT, some)))
        self.assertTrue(is_linked_way(GREAT, group, 3, 70, linked_way(GREAT, group, 3, 70)))
        self.assertFalse(any(is_link(GREAT, group, value) for value in WRONG))
