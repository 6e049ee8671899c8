"""Part 3c: agreement in a number of rounds, with [0.14], [0.15], [3.6] and [3.7]."""

from poolmaps.base.pools import Pool, chain_pool, pair_pool, snap_pool, star_pool
from poolmaps.base.webs import silent_web
from poolmaps.errors import InvalidNumber, InvalidOperation, InvalidPool, TooMany
from poolmaps.groups.bars import agree_in, are_heralds, bar, heralds, is_bar, least_rounds
from poolmaps.groups.closed import can_agree
from tests.reckoning import slow_agree_in, slow_is_bar, unknown_somewhere
from tests.support import (
    Case, is_int_tuple, long_pool, marked_pools, near_values, not_numbers, not_pools, pair_pools, plain_words,
    slow_known, slow_lots, triple_pools,
)

POOL, PAIR = pair_pool("RLB"), pair_pool("RL")
GREAT = snap_pool(4)
MANY = tuple(silent_web(2).with_mark(0, mark) for mark in range(80))
PATH = Pool(tuple(silent_web(2).with_mark(0, i // 2).with_mark(1, (i + 1) // 2) for i in range(54)))
NO_POOLS = (InvalidPool, not_pools())
ROUNDS = (InvalidNumber, not_numbers(0, 6))


def pools():
    return [*pair_pools(), *marked_pools(), *triple_pools(61), star_pool(3), chain_pool(3), snap_pool(1)]


def slow_heralds(pool, rounds):
    """For each lot the list of the threads that all know behind each of its words."""
    return [
        [t for t in range(pool.size) if all(t in known for word in lot for known in slow_known(pool, word))]
        for lot in slow_lots(pool, rounds)
    ]


class BarsTest(Case):
    def test_agreement_heralds_and_bars(self):
        for pool in pools():
            agreed = False
            for rounds in range(3):
                told = slow_agree_in(pool, rounds)
                choices = slow_heralds(pool, rounds)
                self.assertIs(agree_in(pool, rounds), told)
                self.assertIs(all(choices), told)
                self.assertTrue(told or not agreed)
                agreed = told
                if told:
                    self.check_heralds(pool, rounds, choices)
                    self.fails(InvalidOperation, bar, pool, rounds)
                else:
                    self.fails(InvalidOperation, heralds, pool, rounds)
                    self.assertIs(are_heralds(pool, rounds, (0,) * len(choices)), False)
                    made = bar(pool, rounds)
                    self.assertTrue(slow_is_bar(pool, rounds, made))
                    self.assertIs(is_bar(pool, rounds, made), True)

    def check_heralds(self, pool, rounds, choices):
        made = heralds(pool, rounds)
        self.assertTrue(is_int_tuple(made) and len(made) == len(choices))
        self.assertTrue(all(thread in found for thread, found in zip(made, choices)))
        self.assertIs(are_heralds(pool, rounds, made), True)
        self.assertIs(are_heralds(pool, rounds, tuple(found[-1] for found in choices)), True)
        for value in near_values(made):
            told = (is_int_tuple(value) and len(value) == len(choices)
                    and all(thread in found for thread, found in zip(value, choices)))
            self.assertIs(are_heralds(pool, rounds, value), told)

    def test_can_agree_exactly_if_some_number_of_rounds_is_enough(self):
        for pool in [*pair_pools(), *triple_pools(13), *triple_pools(3001, 3)]:
            told = [agree_in(pool, rounds) for rounds in range(5)]
            self.assertEqual(told, sorted(told))
            self.assertIs(can_agree(pool), any(told))
            least = told.index(True) if any(told) else None
            self.assertEqual(least_rounds(pool, most=4), least)
            for most in range(5):
                within = least is not None and least <= most
                self.assertEqual(least_rounds(pool, most=most), least if within else None)

    def test_one_thread(self):
        pool = snap_pool(1)
        for rounds in (0, 6):
            self.assertEqual((agree_in(pool, rounds), heralds(pool, rounds)), (True, (0,)))
            self.fails(InvalidOperation, bar, pool, rounds)
            self.assertIs(is_bar(pool, rounds, ((0,) * rounds, ())), False)
        self.assertEqual((least_rounds(pool), least_rounds(pool, most=0)), (0, 0))

    def test_no_round_and_six(self):
        self.assertEqual((agree_in(PAIR, 0), agree_in(PAIR, 6), agree_in(POOL, 6)), (False, True, False))
        self.assertEqual(len(heralds(PAIR, 6)), 64)
        self.assertIs(are_heralds(PAIR, 6, heralds(PAIR, 6)), True)
        self.assertIs(are_heralds(PAIR, 6, tuple(word[0] for word in plain_words(PAIR, 6))), True)
        self.assertIs(are_heralds(PAIR, 6, (1,) * 64), False)
        self.assertTrue(slow_is_bar(POOL, 6, bar(POOL, 6)))
        self.assertTrue(is_bar(POOL, 6, bar(POOL, 6)))
        self.assertTrue(is_bar(GREAT, 0, ((), ())))

    def test_values_near_bars(self):
        cases = [(POOL, 1, ((0,), ((1, (2,)), (0, (1,))))), (POOL, 2, bar(POOL, 2)), (PAIR, 0, ((), ())),
                 (pair_pool("BN"), 1, ((1,), ())), (snap_pool(3), 1, bar(snap_pool(3), 1))]
        for pool, rounds, right in cases:
            self.assertTrue(is_bar(pool, rounds, right))
            for value in near_values(right):
                self.assertIs(is_bar(pool, rounds, value), slow_is_bar(pool, rounds, value))
            self.assertIs(is_bar(pool, rounds + 1, right), False)
        self.judges(is_bar, [POOL, 1])
        self.judges(is_bar, [POOL, 0])
        self.judges(are_heralds, [PAIR, 1])

    def test_bars_of_many_steps(self):
        back = ((1, (2,)), (0, (1,)), (0, (2,)), (1, (0,)))
        self.assertIs(is_bar(POOL, 1, ((0,), back * 3750)), True)
        self.assertIs(is_bar(POOL, 1, ((0,), back * 3750 + back[:1])), False)
        self.assertIs(is_bar(POOL, 1, ((0,), back * 3749 + ((0, (2,)),) + back[1:])), False)
        stay = ((0, (0,)),) * 14998
        self.assertIs(is_bar(POOL, 1, ((0,), stay + ((1, (2,)), (0, (1,))))), True)
        self.assertIs(is_bar(POOL, 1, ((0,), stay + ((1, (2,)), (1, (2,))))), False)

    def test_long_bars(self):
        pool = long_pool()
        made = bar(pool, 2)
        self.assertEqual(len(made[1]), 2808)
        self.assertTrue(slow_is_bar(pool, 2, made))
        self.assertIs(is_bar(pool, 2, made), True)
        self.assertIs(is_bar(pool, 2, (made[0], made[1][:-1])), False)
        back = tuple((made[1][at][0], (made[0], *[word for _, word in made[1]])[at]) for at in range(2807, -1, -1))
        self.assertIs(is_bar(pool, 2, (made[0], (made[1] + back) * 2 + made[1])), True)
        self.assertIs(is_bar(pool, 2, (made[0], (made[1] + back) * 3)), False)

    def test_judging_bars_has_no_limit(self):
        word = (0, 3, 5, 6, 74, 73)
        self.assertIs(is_bar(GREAT, 6, (word, ())), slow_is_bar(GREAT, 6, (word, ())))
        pool = Pool(MANY)
        for rounds in range(7):
            word = (0,) * rounds
            self.assertIs(is_bar(pool, rounds, (word, ((1, word),) * 3)), True)
        snap = pair_pool("RLBN")
        self.assertIs(is_bar(snap, 6, ((0,) * 6, ())), False)
        self.assertTrue(unknown_somewhere(snap, [(3,) * 6]))
        self.assertIs(is_bar(snap, 6, ((3,) * 6, ())), True)

    def test_too_many_words(self):
        pool = Pool(MANY[:55])
        for call in (agree_in, heralds, bar):
            self.fails_keeping(TooMany, 3000, call, pool, 2)
            self.fails_keeping(TooMany, 3000, call, GREAT, 2)
        self.fails_keeping(TooMany, 3000, are_heralds, pool, 2, None)
        self.assertEqual((agree_in(PATH, 2), is_bar(PATH, 2, bar(PATH, 2))), (False, True))
        self.fails_keeping(TooMany, 3000, least_rounds, GREAT)
        self.fails_keeping(TooMany, 3000, least_rounds, pool, most=2)
        self.assertIsNone(least_rounds(GREAT, most=1))
        many = Pool(tuple(star_pool(2)[0].with_mark(0, mark) for mark in range(80)))
        self.assertEqual(least_rounds(many, most=6), 1)
        self.fails(InvalidPool, agree_in, None, 2)

    def test_wrong_arguments(self):
        for call in (agree_in, heralds):
            self.checks_arguments(call, [PAIR, 1], [NO_POOLS, ROUNDS])
            self.checks_arguments(call, [GREAT, 6], [NO_POOLS, ROUNDS])
        self.checks_arguments(bar, [POOL, 1], [NO_POOLS, ROUNDS])
        for call in (are_heralds, is_bar):
            self.checks_arguments(call, [PAIR, 1, None], [NO_POOLS, ROUNDS, None])
        self.checks_arguments(least_rounds, [PAIR], [NO_POOLS])
        for value in not_numbers(0, 6):
            self.fails_keeping(InvalidNumber, value, least_rounds, PAIR, most=value)
            self.fails_keeping(InvalidNumber, value, least_rounds, GREAT, most=value)
            self.fails(InvalidPool, least_rounds, PAIR.webs, most=value)

    def test_least_rounds_goes_up_to_three_by_itself(self):
        pools = [pool for pool in triple_pools(1) if least_rounds(pool, most=6) == 3][:3]
        self.assertTrue(pools)
        for pool in pools:
            self.assertEqual((least_rounds(pool), least_rounds(pool, most=2)), (3, None))
