"""Part 2b: sights and views, with [0.9], [0.10], [0.17], [2.2], [2.4] and [2.5]."""

from itertools import product

from poolmaps.base.pools import Pool, chain_pool, pair_pool, snap_pool, star_pool
from poolmaps.base.webs import Web, full_web, silent_web
from poolmaps.errors import InvalidNumber, InvalidOperation, InvalidPool, InvalidWord, TooMany
from poolmaps.known import sights
from poolmaps.known.sights import (
    all_views, difference, is_difference, same_sight, sight_counts, sight_numbers, view_of, views_of,
)
from tests.support import (
    Case, is_int, is_int_tuple, looks_like_word, marked_pools, near_values, not_numbers, not_pools, not_words,
    pair_pools, plain_words, slow_known, slow_sight, slow_sights, small_pools, triple_pools, wrong_where,
)

POOL = pair_pool("RLB")
GREAT = snap_pool(4)
MANY = tuple(silent_web(2).with_mark(0, mark) for mark in range(80))
NO_POOLS = (InvalidPool, not_pools())
BIG = [Pool(MANY[:55]), Pool(MANY[:15]), Pool(MANY[:8]), Pool(MANY[:5]), Pool(MANY[:4]), Pool(MANY[:54])]


def slow_numbers(pool, rounds):
    """Sight numbers by the whole sights, in the order in which they come."""
    told = slow_sights(pool, rounds)
    orders = [list(dict.fromkeys(each[thread] for each in told.values())) for thread in range(pool.size)]
    return {word: tuple(orders[t].index(each[t]) for t in range(pool.size)) for word, each in told.items()}


def slow_is_difference(pool, thread, one, other, value):
    """The definition of a difference, from its first thread on."""
    if not is_int_tuple(value) or not value or len(one) != len(other) or value[0] != thread:
        return False
    if len(value) > len(one) or not all(0 <= each < pool.size for each in value):
        return False
    asked, *behind = value
    first, second = pool.webs[one[-1]], pool.webs[other[-1]]
    if not behind:
        return (first.heard[asked], first.marks[asked]) != (second.heard[asked], second.marks[asked])
    if not all(behind[0] == asked or behind[0] in web.heard[asked] for web in (first, second)):
        return False
    return slow_is_difference(pool, behind[0], one[:-1], other[:-1], tuple(behind))


def some_rows(size):
    return [tuple(range(size)), (0,) * size, (9,) * size, (1,) * (size - 1) + (0,)]


class SightsTest(Case):
    def test_constants(self):
        self.assertEqual((sights.MAX_WORDS, sights.MAX_RUNS), (3000, 4000))

    def test_sight_numbers_of_small_pools(self):
        for pool in [*small_pools(), chain_pool(4), star_pool(5)]:
            for rounds in range(4 if pool.size < 4 else 3):
                told = sight_numbers(pool, rounds)
                slow = slow_numbers(pool, rounds)
                self.assertEqual(list(told.items()), list(slow.items()))
                counts = tuple(len({numbers[t] for numbers in slow.values()}) for t in range(pool.size))
                self.assertEqual(sight_counts(pool, rounds), counts)

    def test_no_round_and_six(self):
        self.assertEqual(sight_numbers(POOL, 0), {(): (0, 0)})
        self.assertEqual(sight_counts(GREAT, 0), (1, 1, 1, 1))
        self.assertEqual(sight_numbers(POOL, 6), slow_numbers(POOL, 6))
        self.assertEqual(sight_counts(POOL, 6), (365, 365))
        self.assertEqual(sight_counts(snap_pool(1), 6), (1,))

    def test_a_returned_dict_is_free(self):
        told = sight_numbers(POOL, 2)
        told.clear()
        self.assertEqual(len(sight_numbers(POOL, 2)), 9)
        self.assertIsNot(sight_numbers(POOL, 2), sight_numbers(POOL, 2))

    def test_marks_make_sights_different(self):
        pool = Pool((silent_web(2), silent_web(2).with_mark(1, 9999)))
        self.assertEqual(sight_numbers(pool, 1), {(0,): (0, 0), (1,): (0, 1)})
        self.assertTrue(same_sight(pool, 0, (0, 1, 0), (1, 0, 1)))
        self.assertFalse(same_sight(pool, 1, (0, 1, 0), (0, 0, 0)))

    def test_too_many_words_and_just_enough(self):
        self.assertEqual(len(sight_numbers(Pool(MANY[:54]), 2)), 2916)
        self.assertEqual(len(sight_numbers(Pool(MANY[:14]), 3)), 2744)
        self.assertEqual(len(sight_numbers(Pool(MANY), 1)), 80)
        for pool, rounds in zip(BIG, (2, 3, 4, 5, 6)):
            word = (0,) * rounds
            for call in (sight_numbers, sight_counts):
                self.fails_keeping(TooMany, 3000, call, pool, rounds)
            self.fails_keeping(TooMany, 3000, view_of, pool, ((0, 0), word), 1)
            self.fails_keeping(TooMany, 3000, views_of, pool, ((0, 0), word))
            self.fails_keeping(TooMany, 3000, all_views, pool, rounds, ((0, 0),))
            self.assertIs(same_sight(pool, 0, word, (1,) * rounds), False)
            self.assertIs(is_difference(pool, 0, word, (1,) * rounds, (0,)), True)
            self.assertTrue(is_difference(pool, 0, word, (1,) * rounds, difference(pool, 0, word, (1,) * rounds)))

    def test_wrong_rounds(self):
        wrong = [NO_POOLS, (InvalidNumber, not_numbers(0, 6))]
        for call in (sight_numbers, sight_counts):
            self.checks_arguments(call, [GREAT, 6], [NO_POOLS, None])
            self.checks_arguments(call, [GREAT, 6], wrong)


class DifferenceTest(Case):
    def test_same_sight(self):
        for pool in small_pools()[::2]:
            for one, other in product(plain_words(pool, 2), repeat=2):
                for thread in range(pool.size):
                    told = slow_sight(pool, one, thread) == slow_sight(pool, other, thread)
                    self.assertIs(same_sight(pool, thread, one, other), told)
        for lengths in product(range(4), repeat=2):
            one, other = ((0,) * length for length in lengths)
            self.assertIs(same_sight(POOL, 1, one, other), lengths[0] == lengths[1])

    def test_differences_by_their_definition(self):
        for pool in [*pair_pools()[::2], *marked_pools(), *triple_pools(397)]:
            for rounds in range(3):
                for one, other in product(plain_words(pool, rounds), repeat=2):
                    self.check_differences(pool, one, other)
        for one, other in product(plain_words(pair_pool("RLN"), 3)[::2], repeat=2):
            self.check_differences(pair_pool("RLN"), one, other)

    def check_differences(self, pool, one, other):
        for thread in range(pool.size):
            right = []
            for many in range(len(one) + 2):
                for value in product(range(pool.size), repeat=many):
                    told = slow_is_difference(pool, thread, one, other, value)
                    self.assertIs(is_difference(pool, thread, one, other, value), told)
                    right = right + [value] * told
            self.assertIs(len(right) > 0, not same_sight(pool, thread, one, other))
            if right:
                self.assertIn(difference(pool, thread, one, other), right)
            else:
                self.fails(InvalidOperation, difference, pool, thread, one, other)

    def test_a_difference_may_pass_threads_whose_signals_differ(self):
        pool = Pool((full_web(2), full_web(2).with_mark(0, 1)))
        for value in ((0,), (0, 0), (0, 0, 0)):
            self.assertIs(is_difference(pool, 0, (0, 0, 0), (1, 1, 1), value), True)
        self.assertIs(is_difference(pool, 0, (0, 0, 0), (1, 1, 1), (0, 0, 0, 0)), False)

    def test_near_values(self):
        for pool, one, other in ((POOL, (0, 2, 1), (2, 2, 1)), (GREAT, (3, 5, 74, 1), (3, 5, 74, 2)),
                                 (GREAT, (0, 1, 70, 1, 74, 74), (0, 2, 70, 1, 74, 74)),
                                 (Pool((full_web(2), full_web(2).with_mark(0, 1))), (0, 0), (1, 0))):
            for thread in range(pool.size):
                if not same_sight(pool, thread, one, other):
                    right = difference(pool, thread, one, other)
                    self.assertTrue(slow_is_difference(pool, thread, one, other, right))
                    for value in near_values(right):
                        told = slow_is_difference(pool, thread, one, other, value)
                        self.assertIs(is_difference(pool, thread, one, other, value), told)

    def test_words_of_different_lengths(self):
        self.assertIs(same_sight(POOL, 0, (), (0,)), False)
        for value in ((0,), (), (0, 0), (0, 1)):
            self.assertIs(is_difference(POOL, 0, (0,), (0, 1), value), False)
            self.assertIs(is_difference(POOL, 0, (0, 1), (0,), value), False)
        self.fails(InvalidOperation, difference, POOL, 0, (0,), (0, 1))
        self.fails(InvalidOperation, difference, POOL, 0, (0, 1), (0,))
        self.fails(InvalidOperation, difference, POOL, 0, (), ())

    def test_great_pools_have_no_limit(self):
        one, other = (0, 10, 20, 30, 40, 50), (1, 10, 20, 30, 40, 50)
        for thread in range(4):
            same = same_sight(GREAT, thread, one, other)
            self.assertIs(same, slow_sight(GREAT, one, thread) == slow_sight(GREAT, other, thread))
            self.assertIs(same_sight(GREAT, thread, one, one), True)
            if not same:
                self.assertTrue(is_difference(GREAT, thread, one, other, difference(GREAT, thread, one, other)))

    def test_wrong_arguments(self):
        threads, words = (InvalidNumber, not_numbers(0, 1)), (InvalidWord, not_words(POOL))
        wrong = [NO_POOLS, threads, words, words]
        for call in (same_sight, difference):
            self.checks_arguments(call, [POOL, 0, (0,), (0, 1)], wrong)
        self.checks_arguments(is_difference, [POOL, 0, (0,), (1,), None], [*wrong, None])
        self.judges(is_difference, [POOL, 0, (0, 1), (0, 2)])

    def test_equal_sights_stay_equal_without_the_last_round(self):
        for pool in small_pools()[::2]:
            for one, other in product(plain_words(pool, 2), repeat=2):
                for thread in range(pool.size):
                    if same_sight(pool, thread, one, other):
                        self.assertTrue(same_sight(pool, thread, one[:-1], other[:-1]))


class ViewsTest(Case):
    def slow_views(self, pool, row, word):
        numbers, behind = slow_numbers(pool, len(word))[word], slow_known(pool, word)
        return tuple((t, numbers[t], tuple((o, row[o]) for o in behind[t])) for t in range(pool.size))

    def test_views_of_small_pools(self):
        for pool in small_pools()[::2]:
            for rounds in range(3):
                for word, row in product(plain_words(pool, rounds), some_rows(pool.size)):
                    told = self.slow_views(pool, row, word)
                    self.assertEqual(views_of(pool, (row, word)), told)
                    for thread in range(pool.size):
                        self.assertEqual(view_of(pool, (row, word), thread), told[thread])

    def test_all_views(self):
        for pool in [*pair_pools(), *marked_pools()]:
            rows = tuple(sorted(some_rows(pool.size)))
            rows = tuple(dict.fromkeys(rows))
            for rounds in range(3):
                told = {
                    view for word in plain_words(pool, rounds) for row in rows
                    for view in self.slow_views(pool, row, word)
                }
                self.assertEqual(all_views(pool, rounds, rows), tuple(sorted(told)))

    def test_five_threads_and_one(self):
        pool = star_pool(5)
        self.assertEqual(view_of(pool, ((9, 8, 7, 6, 5), (2, 1)), 0), self.slow_views(pool, (9, 8, 7, 6, 5), (2, 1))[0])
        self.assertEqual(views_of(snap_pool(1), ((3,), (0,) * 6)), ((0, 0, ((0, 3),)),))
        self.assertEqual(all_views(snap_pool(1), 6, ((0,), (9,))), ((0, 0, ((0, 0),)), (0, 0, ((0, 9),))))

    def test_views_are_equal_just_by_sight_and_inputs(self):
        for pool in [*pair_pools()[::3], *marked_pools()[::2], *triple_pools(897)]:
            rows = list(product((0, 1), repeat=pool.size))
            runs = [(row, word) for row in rows for word in plain_words(pool, 2)]
            views = [views_of(pool, run) for run in runs]
            behind = {word: slow_known(pool, word) for word in plain_words(pool, 2)}
            for (one, first), (other, second) in product(list(zip(runs, views))[::3], repeat=2):
                for thread in range(pool.size):
                    told = slow_sight(pool, one[1], thread) == slow_sight(pool, other[1], thread) and all(
                        one[0][each] == other[0][each] for each in behind[one[1]][thread])
                    self.assertIs(first[thread] == second[thread], told)

    def test_too_many_runs_and_just_enough(self):
        pool = Pool(MANY)
        rows = tuple(product(range(10), repeat=2))
        self.assertEqual(len(all_views(pool, 1, rows[:50])), 80 * 5 + 10)
        self.fails_keeping(TooMany, 4000, all_views, pool, 1, rows[:51])
        self.fails_keeping(TooMany, 4000, all_views, Pool(MANY[:54]), 2, rows[:2])
        self.fails_keeping(TooMany, 3000, all_views, Pool(MANY[:55]), 2, rows[:2])
        self.assertEqual(len(all_views(Pool(MANY[:54]), 2, rows[:1])), 2917)
        self.assertEqual(len(all_views(pool, 0, rows[:64])), 17)

    def test_wrong_runs(self):
        good = ((0, 1), (0,))
        more = (
            [(0, 1), (0,)], ((0, 1),), ((0, 1), (0,), ()), ((0, 1, 2), (0,)), ((0,), (0,)), ((0, 10), (0,)),
            ((0, -1), (0,)), ((0, True), (0,)), ([0, 1], (0,)), ((0, 1), [0]), ((0, 1), (3,)), ((0, 1), (True,)),
            ((0, 1), (0,) * 7), ((0,), (0, 1)), ((0, 10 ** 99), ()), (None, ()), ((0, 1), None), {0: (0, 1), 1: ()},
        )

        def looks_like_run(value):
            return (type(value) is tuple and len(value) == 2 and is_int_tuple(value[0]) and len(value[0]) == 2
                    and all(0 <= each <= 9 for each in value[0]) and looks_like_word(POOL, value[1]))

        wrong = [NO_POOLS, (InvalidWord, wrong_where(looks_like_run, *more)), (InvalidNumber, not_numbers(0, 1))]
        self.checks_arguments(view_of, [POOL, good, 0], wrong)
        self.checks_arguments(views_of, [POOL, good], wrong[:2])
        self.checks_arguments(view_of, [GREAT, ((0, 0, 0, 0), (0, 0)), 4], [None, None, (InvalidNumber, [4, True])])

    def test_wrong_rows(self):
        rows = tuple(product(range(10), repeat=2))

        def looks_like_rows(value):
            return (type(value) is tuple and 0 < len(value) < 65 and all(
                is_int_tuple(row) and len(row) == 2 and all(is_int(i) and 0 <= i <= 9 for i in row) for row in value)
                and list(value) == sorted(set(value)))

        more = (
            rows[:65], ((0, 1), (0, 0)), ((0, 0), (0, 0)), [(0, 0)], ((0, 0), [0, 1]), ((0, 0, 0),), ((0, 10),),
            ((0, True),), ((-1, 0),), ((0, 0), None), ((0, 0), (0, 1, 2)), {(0, 0): 1}, ((0, 10 ** 60),),
        )
        wrong = [NO_POOLS, (InvalidNumber, not_numbers(0, 6)), (InvalidOperation, wrong_where(looks_like_rows, *more))]
        self.checks_arguments(all_views, [POOL, 1, ((0, 0),)], wrong)
        self.checks_arguments(all_views, [Pool(MANY), 6, ((0, 0),)], wrong)
