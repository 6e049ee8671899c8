"""Powers of pools, against what is known and seen behind each word."""

from itertools import product

from poolmaps.base.pools import Pool, chain_pool, pair_pool, snap_pool, star_pool
from poolmaps.base.webs import silent_web
from poolmaps.errors import InvalidNumber, InvalidPool, InvalidWord, TooMany
from poolmaps.groups.closed import can_agree
from poolmaps.near.limits import near_limit
from poolmaps.plays.powers import power_pool, power_word
from poolmaps.tasks.search import can_do
from poolmaps.tasks.tasks import agreement_task, near_task
from tests.support import (
    Case, marked_pools, not_numbers, not_pools, not_words, pair_pools, plain_words, slow_known, slow_sight, small_pools,
    triple_pools,
)


def few(pool, rounds):
    return len(pool) ** rounds <= 80


class PowersTest(Case):
    def test_webs_of_powers(self):
        for pool, rounds in product([*small_pools(), snap_pool(3), chain_pool(5)], range(5)):
            if not few(pool, rounds):
                self.fails_keeping(TooMany, 80, power_pool, pool, rounds)
                continue
            power, words = power_pool(pool, rounds), plain_words(pool, rounds)
            self.assertEqual((len(power), power.size), (len(words), pool.size))
            sights = [list(dict.fromkeys(slow_sight(pool, word, t) for word in words)) for t in range(pool.size)]
            for web, word in zip(power, words):
                knowing = slow_known(pool, word)
                self.assertEqual([web.hears(t) for t in range(pool.size)], list(knowing))
                self.assertEqual(list(web.marks), [
                    sights[t].index(slow_sight(pool, word, t)) for t in range(pool.size)])
            if rounds == 0:
                self.assertEqual(power, Pool((silent_web(pool.size),)))

    def test_words_of_powers(self):
        for pool, rounds in product([*pair_pools(), *marked_pools()[:4]], (1, 2, 3)):
            for times in range(6 // rounds + 1):
                if len(pool) ** (rounds * times) > 300:
                    continue
                if not few(pool, rounds):
                    self.fails_keeping(TooMany, 80, power_word, pool, rounds, (0,) * (rounds * times))
                    continue
                power, blocks = power_pool(pool, rounds), plain_words(pool, rounds)
                told = {}
                for word in plain_words(pool, rounds * times):
                    parts = [word[at:at + rounds] for at in range(0, len(word), rounds)]
                    self.assertEqual(power_word(pool, rounds, word), tuple(blocks.index(part) for part in parts))
                    told[word] = power_word(pool, rounds, word)
                # Equal sights are those with equal sights behind the words of the power, and knowing is the same.
                for thread in range(pool.size):
                    pairs = {(slow_sight(pool, word, thread), slow_sight(power, other, thread))
                             for word, other in told.items()}
                    self.assertEqual(len(pairs), len({one for one, _ in pairs}))
                    self.assertEqual(len(pairs), len({other for _, other in pairs}))
                for word, other in told.items():
                    self.assertEqual(slow_known(pool, word), slow_known(power, other))

    def test_what_can_be_done(self):
        for pool in [*pair_pools(), *triple_pools(411), star_pool(3)]:
            for rounds in (1, 2, 3):
                if few(pool, rounds):
                    self.assertIs(can_agree(power_pool(pool, rounds)), can_agree(pool))
        for pool, rounds, times in product(pair_pools(), (1, 2), (1, 2)):
            if few(pool, rounds):
                power = power_pool(pool, rounds)
                self.assertEqual(near_limit(power, times), near_limit(pool, rounds * times))
                for task in (agreement_task(2), near_task(2, 3)):
                    self.assertIs(can_do(power, task, times), can_do(pool, task, rounds * times))

    def test_errors(self):
        pool, pools = pair_pool("RLB"), (InvalidPool, not_pools())
        self.checks_arguments(power_pool, (pool, 1), (pools, (InvalidNumber, not_numbers(0, 6))))
        words = not_words(pool)
        self.checks_arguments(power_word, (pool, 2, (0, 1)), (
            pools, (InvalidNumber, not_numbers(1, 6)), (InvalidWord, [*words, (0,), (0, 1, 2), (0,) * 5])))
        self.fails_keeping(InvalidNumber, 0, power_word, pool, 0, ())
        self.fails_keeping(TooMany, 80, power_pool, pool, 4)
        self.fails_keeping(TooMany, 80, power_pool, snap_pool(4), 6)
        self.fails_keeping(TooMany, 80, power_word, pool, 4, (0,) * 4)
        self.fails(InvalidWord, power_word, pool, 4, (0,) * 5)
        self.assertEqual(power_word(pool, 3, ()), ())
        self.assertEqual(len(power_pool(snap_pool(4), 1)), 75)
        wide = Pool(tuple(silent_web(1).with_mark(0, mark) for mark in range(80)))
        self.assertEqual((len(power_pool(wide, 1)), power_word(wide, 1, (79, 0))), (80, (79, 0)))
