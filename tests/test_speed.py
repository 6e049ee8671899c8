"""Calls that come very often: that they answer as the points tell, and are done in no time."""

from itertools import permutations, product
from time import process_time

from poolmaps.base.pools import Pool, snap_pool
from poolmaps.base.webs import Web, full_web, parting_web
from poolmaps.counts.names import (
    OrderRule, clash, is_clash, is_unlike, names_task, pattern_of, patterns, rank_rule, triangle,
)
from poolmaps.counts.signs import is_hidden, is_partner_way, partner_way, partner_word, word_sign
from poolmaps.errors import InvalidOperation, InvalidPool, InvalidRule, TooMany
from poolmaps.tasks.tasks import Task, choice_task, near_task
from tests.reckoning import slow_roots
from tests.support import SNAPS, Case, all_webs, marked_pools, own_partings, plain_words, slow_sights


def near_table(size, most):
    """The table of near agreement, row by row, or the limit that it breaks."""
    told = {}
    for row in product((0, 1), repeat=size):
        if set(row) == {0, 1}:
            told[row] = tuple(
                out for out in product(range(most + 1), repeat=size) if max(out) - min(out) <= 1)
        else:
            told[row] = ((row[0] * most,) * size,)
        if len(told[row]) > 256:
            return None
    return told


class SnapPoolsTest(Case):
    def test_webs_in_their_order(self):
        for size in (1, 2, 3, 4):
            webs = sorted((parting_web(blocks) for blocks in own_partings(range(size))), key=lambda web: web.heard)
            pool = snap_pool(size)
            self.assertEqual((list(pool), len(pool), pool.size), (webs, (1, 3, 13, 75)[size - 1], size))
            for web, other in zip(pool, webs):
                self.assertEqual(vars(web), vars(other))
                self.assertEqual(vars(Web(web.heard)), vars(web))
                self.assertEqual(web.roots, tuple(slow_roots(web)))
                self.assertEqual(web.signals, tuple(
                    (tuple(sorted((thread, *others))), 0) for thread, others in enumerate(web.heard)))
                self.assertEqual((web.marks, web.is_marked, len(web)), ((0,) * size, False, sum(map(len, web.heard))))
            for index, web in enumerate(webs):
                self.assertEqual((pool.index_of(web), pool[index], web in pool), (index, web, True))
            self.assertEqual(vars(Pool(tuple(webs))), vars(pool))
            self.assertTrue(pool == snap_pool(size) and pool is not snap_pool(size))
            self.assertIsNot(pool.webs[0], snap_pool(size).webs[0])

    def test_roots_of_all_webs(self):
        webs = [web for size in (1, 2, 3) for web in all_webs(size)] + [web for pool in marked_pools() for web in pool]
        webs += [Web(heard) for heard in list(product(((), (1,), (1, 2), (2, 3)), ((), (0, 2), (3,)), ((), (0,), (3,)), (
            (), (0,), (1, 2))))] + [full_web(5)]
        for web in webs:
            self.assertEqual(web.roots, tuple(slow_roots(web)))
            for thread in range(web.size):
                self.assertIs(thread in web.roots, len(web.reached(thread)) == web.size)

    def test_equal_webs_are_refused_still(self):
        webs = snap_pool(4).webs
        self.fails(InvalidPool, Pool, (*webs, webs[3]))
        self.fails(InvalidPool, Pool, (*webs, Web(webs[70].heard)))
        self.fails(InvalidPool, Pool, (*webs, full_web(3)))
        self.assertEqual(len(Pool((*webs, webs[0].with_mark(0, 1)))), 76)


class SignsTest(Case):
    def test_partners_by_sights(self):
        for size, rounds in ((4, 1), (3, 2), (2, 3)):
            sights = slow_sights(SNAPS[size], rounds)
            for word, thread in product(sights, range(size)):
                others = [t for t in range(size) if t != thread]
                told = [each for each in sights if each != word and all(
                    sights[each][t] == sights[word][t] for t in others)] if size > 1 else []
                partner = partner_word(size, word, thread)
                self.assertEqual([] if partner is None else [partner], told)
                self.assertIs(is_hidden(size, word, thread), partner is None)
                if partner is not None:
                    self.assertEqual(word_sign(size, partner), -word_sign(size, word))
                    self.assertTrue(is_partner_way(size, (word, partner, word)))

    def test_ways(self):
        for size, rounds in ((4, 1), (3, 1), (2, 2)):
            words = plain_words(SNAPS[size], rounds)
            for one, other in list(product(words, words))[::41 if size == 4 else 5]:
                way = partner_way(size, one, other)
                self.assertEqual((way[0], way[-1]), (one, other))
                self.assertTrue(is_partner_way(size, way))
                self.assertLessEqual(len(way), 3000)
                for front, behind in zip(way, way[1:]):
                    self.assertIn(behind, [partner_word(size, front, thread) for thread in range(size)])
        self.fails(InvalidOperation, partner_way, 4, (3,), (1, 1))
        self.fails_keeping(TooMany, 3000, partner_way, 4, (3, 1), (1, 1))
        self.assertEqual(partner_way(4, (), ()), ((),))


class TasksTest(Case):
    def test_near_tasks_row_by_row(self):
        for size in range(1, 6):
            bounds = {1: 99, 2: 85, 3: 36, 4: 17, 5: 8}
            for most in (1, 2, 3, bounds[size] - 1, bounds[size], bounds[size] + 1, 99):
                if most > 99:
                    continue
                if most > bounds[size]:
                    self.fails_keeping(TooMany, 256, near_task, size, most)
                elif (most + 1) ** size < 200000:
                    self.assertEqual(near_task(size, most), Task(near_table(size, most)))
            most = bounds[size]
            if size > 1:
                rights = near_task(size, most)[(0,) * (size - 1) + (1,)]
                self.assertEqual(len(rights), most * (2 ** size - 1) + 1)
                self.assertTrue(256 - 2 ** size < len(rights) <= 256)
                self.assertEqual(list(rights), sorted(set(rights)))
                self.assertTrue(all(max(right) - min(right) <= 1 and max(right) <= most for right in rights))
        self.assertEqual(len(near_task(4, 17)[(0, 1, 1, 1)]), 256)
        self.assertIsNone(near_table(3, 37))

    def test_choice_tasks_row_by_row(self):
        for size in range(1, 6):
            for many in range(1, size + 1):
                rights = tuple(out for out in product(range(size), repeat=size) if len(set(out)) <= many)
                if len(rights) > 256:
                    self.fails_keeping(TooMany, 256, choice_task, size, many)
                else:
                    self.assertEqual(choice_task(size, many), Task({tuple(range(size)): rights}))
        self.assertEqual(len(choice_task(4, 4)[(0, 1, 2, 3)]), 256)

    def test_names_tasks_row_by_row(self):
        for size in (1, 2, 3, 4):
            for names, inputs in product(range(size, 9), repeat=2):
                rows = tuple(permutations(range(inputs), size))
                rights = tuple(permutations(range(1, names + 1), size))
                if len(rows) > 64:
                    self.fails_keeping(TooMany, 64, names_task, size, names, inputs)
                elif len(rights) > 256:
                    self.fails_keeping(TooMany, 256, names_task, size, names, inputs)
                else:
                    self.assertEqual(names_task(size, names, inputs), Task({row: rights for row in rows}))


class SpeedTest(Case):
    """Two hundred calls of each in less than a second, with a wide bound for a busy machine."""

    def lasts(self, most, call, *args):
        start = process_time()
        for _ in range(200):
            try:
                call(*args)
            except TooMany:
                pass
        self.assertLess(process_time() - start, most, (call, args))

    def test_snap_pools_and_signs(self):
        self.lasts(1, snap_pool, 4)
        for call, *args in ((is_hidden, 4, (3, 5), 1), (partner_word, 4, (3, 5), 1), (partner_way, 4, (3,), (1,)),
                            (partner_way, 4, (0,), (74,)), (is_partner_way, 4, ((3,), (1,))), (word_sign, 4, (3, 5)),
                            (pattern_of, 4, (3, 5), 1)):
            self.lasts(1, call, *args)

    def test_order_rules(self):
        for size, rounds in ((3, 0), (3, 1), (2, 3)):
            told = patterns(size, rounds)
            names = {pattern: 1 + at for at, pattern in enumerate(told)}
            rule = OrderRule(size, rounds, names)
            for call, *args in ((patterns, size, rounds), (OrderRule, size, rounds, names), (rule.for_fewer, size),
                                (rule.mapped, {name: name for name in names.values()}), (is_unlike, rule), (clash, rule),
                                (triangle, rule, (1,)), (is_clash, rule, (size, (0,) * rounds, (0, 1)))):
                self.lasts(1, call, *args)
        self.lasts(1, rank_rule, 3)

    def test_tasks_that_are_refused(self):
        self.lasts(1, near_task, 4, 99)
        self.lasts(1, near_task, 5, 99)
        self.lasts(0.5, choice_task, 5, 5)
        self.lasts(0.5, choice_task, 5, 2)
        self.lasts(0.5, names_task, 4, 8, 8)
        self.lasts(0.5, names_task, 4, 8, 4)
        start = process_time()
        for size, most in ((4, 17), (5, 8), (3, 36), (2, 85)):
            near_task(size, most)
        self.assertLess(process_time() - start, 0.5)

    def test_names_with_truth_in_patterns_are_refused(self):
        told = {pattern: 1 for pattern in patterns(2, 1)}
        for spoilt in ((False, (((0, (0,)),),)), (0, (((False, (0,)),),)), (0, (((0, (False,)),),))):
            value = {spoilt if pattern == spoilt else pattern: name for pattern, name in told.items()}
            self.assertEqual(len(value), len(told))
            self.fails(InvalidRule, OrderRule, 2, 1, value)
        self.assertEqual(OrderRule(2, 1, told).greatest, 1)
