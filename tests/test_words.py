"""Part 2a: words, with [0.8], [2.1] and [2.3]."""

from itertools import islice, product

from poolmaps.base.pools import Pool, chain_pool, pair_pool, snap_pool, star_pool
from poolmaps.base.webs import Web, chain_web, silent_web
from poolmaps.errors import InvalidNumber, InvalidPool, InvalidWord
from poolmaps.known.words import MAX_ROUNDS, all_words, count_words, is_word, known, known_by_everyone, known_since
from tests.support import (
    Case, looks_like_word, near_values, not_numbers, not_pools, not_words, plain_words, slow_known, small_pools,
)

POOL = pair_pool("RLB")
GREAT = snap_pool(4)
EIGHTY = Pool(tuple(silent_web(5).with_mark(0, mark) for mark in range(80)))
NO_POOLS = (InvalidPool, not_pools())


def listed(pool, rounds):
    return list(all_words(pool, rounds))


class WordsTest(Case):
    def test_is_word(self):
        self.assertEqual(MAX_ROUNDS, 6)
        for pool in (POOL, snap_pool(1), EIGHTY):
            last = len(pool) - 1
            for word in ((), (0,), (last,), (0,) * 6, (last,) * 6):
                self.assertIs(is_word(pool, word), True)
            more = ((0,) * 7, (last + 1,), (-1,), (0, True), (False,), [0], [], {}, (0, "0"), ((0,),), (0, None), range(2))
            self.judges(is_word, [pool], more)
            for value in more:
                self.assertIs(is_word(pool, value), False)
            for value in [*not_words(pool), *near_values((0, 0, 0))]:
                self.assertIs(is_word(pool, value), looks_like_word(pool, value))
        self.checks_arguments(is_word, [POOL, ()], [NO_POOLS, None])

    def test_all_words_and_their_number(self):
        for pool in small_pools()[::3]:
            for rounds in range(4):
                self.assertEqual(listed(pool, rounds), plain_words(pool, rounds))
                self.assertEqual(count_words(pool, rounds), len(pool.webs) ** rounds)
        self.assertEqual(listed(POOL, 0), [()])
        self.assertEqual(listed(POOL, 6), plain_words(POOL, 6))
        self.assertEqual(listed(snap_pool(1), 6), [(0,) * 6])

    def test_no_limit_of_words(self):
        self.assertEqual(count_words(GREAT, 6), 75 ** 6)
        self.assertEqual(count_words(EIGHTY, 6), 80 ** 6)
        self.assertEqual(list(islice(all_words(GREAT, 6), 77))[-1], (0, 0, 0, 0, 1, 1))
        self.assertEqual(len(listed(GREAT, 2)), 5625)

    def test_a_generator_raises_its_errors_at_its_first_element(self):
        words = all_words(None, 9)
        self.assertIsInstance(self.fails(InvalidPool, next, words), InvalidPool)
        words = all_words(POOL, 7)
        self.assertEqual(self.fails(InvalidNumber, next, words).given, 7)
        one, other = all_words(POOL, 1), all_words(POOL, 1)
        self.assertEqual([next(one), next(one), next(other)], [(0,), (1,), (0,)])

    def test_wrong_rounds(self):
        wrong = [NO_POOLS, (InvalidNumber, not_numbers(0, 6))]
        self.checks_arguments(count_words, [POOL, 1], wrong)
        self.checks_arguments(listed, [POOL, 1], wrong)


class KnownTest(Case):
    def test_known_of_small_pools(self):
        for pool in small_pools():
            for rounds in range(4):
                for word in plain_words(pool, rounds):
                    told = slow_known(pool, word)
                    self.assertEqual(known(pool, word), told)
                    everyone = tuple(t for t in range(pool.size) if all(t in each for each in told))
                    self.assertEqual(known_by_everyone(pool, word), everyone)

    def test_no_round_and_six(self):
        pool = chain_pool(5)
        self.assertEqual(known(pool, ()), ((0,), (1,), (2,), (3,), (4,)))
        self.assertEqual(known_by_everyone(pool, ()), ())
        self.assertEqual(known(pool, (0,) * 4), ((0,), (0, 1), (0, 1, 2), (0, 1, 2, 3), (0, 1, 2, 3, 4)))
        self.assertEqual(known_by_everyone(pool, (0,) * 6), (0,))
        self.assertEqual((known(snap_pool(1), (0,) * 6), known_by_everyone(snap_pool(1), ())), (((0,),), (0,)))

    def test_known_in_great_pools(self):
        for word in ((74, 3, 60, 11, 0, 22), (0,) * 6, (74,) * 6, (30, 31, 32)):
            self.assertEqual(known(GREAT, word), slow_known(GREAT, word))
            for thread, other in product(range(4), repeat=2):
                self.assertEqual(known_since(GREAT, word, thread, other), self.slow_since(GREAT, word, thread, other))
        self.assertEqual(known(EIGHTY, (79, 0, 5, 6, 7, 8)), ((0,), (1,), (2,), (3,), (4,)))

    def slow_since(self, pool, word, thread, other):
        behind = [rounds for rounds in range(len(word) + 1) if other in slow_known(pool, word[:rounds])[thread]]
        return behind[0] if behind else None

    def test_known_since(self):
        for pool in small_pools()[::2]:
            for word in plain_words(pool, 3):
                for thread, other in product(range(pool.size), repeat=2):
                    told = self.slow_since(pool, word, thread, other)
                    self.assertEqual(known_since(pool, word, thread, other), told)
                    self.assertEqual(known_since(pool, word, thread, thread), 0)

    def test_wrong_arguments(self):
        words = (InvalidWord, not_words(POOL))
        threads = (InvalidNumber, not_numbers(0, 1))
        self.checks_arguments(known, [POOL, (0,)], [NO_POOLS, words])
        self.checks_arguments(known_by_everyone, [POOL, (0,)], [NO_POOLS, words])
        self.checks_arguments(known_since, [POOL, (0,), 0, 1], [NO_POOLS, words, threads, threads])

    def test_nobody_forgets(self):
        for pool in small_pools()[::2]:
            for word in plain_words(pool, 3):
                for rounds in range(3):
                    for less, more in zip(known(pool, word[:rounds]), known(pool, word[:rounds + 1])):
                        self.assertTrue(set(less) <= set(more))

    def test_known_behind_two_words(self):
        for pool in small_pools()[::3]:
            for one, other in product(plain_words(pool, 2), plain_words(pool, 1) + plain_words(pool, 2)):
                first, second, whole = known(pool, one), known(pool, other), known(pool, one + other)
                for thread in range(pool.size):
                    told = {far for near in second[thread] for far in first[near]}
                    self.assertEqual(set(whole[thread]), told)

    def test_roots_of_all_rounds_are_known(self):
        pools = [*small_pools(), star_pool(4), chain_pool(3), Pool((chain_web(5, 2), chain_web(5, 2).with_mark(0, 1)))]
        for pool in pools:
            for word in plain_words(pool, pool.size - 1):
                roots = set(range(pool.size))
                for index in word:
                    roots = roots & set(pool[index].roots)
                self.assertTrue(roots <= set(known_by_everyone(pool, word)))

    def test_results_are_tuples_all_the_way(self):
        for told in (known(POOL, (0, 1)), known_by_everyone(POOL, (0,)), known(Pool((Web(((),)),)), ())):
            self.assertIs(type(told), tuple)
        self.assertTrue(all(type(each) is tuple for each in known(POOL, (2, 2))))
