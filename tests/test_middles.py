"""Part 4b: middles, with [4.5]."""

from fractions import Fraction
from itertools import product
from random import Random

from poolmaps.base.pools import Pool, chain_pool, pair_pool, snap_pool, star_pool
from poolmaps.base.webs import full_web, silent_web
from poolmaps.errors import InvalidNumber, InvalidOperation, InvalidPool, InvalidRow, NothingToUndo, TooMany
from poolmaps.near.limits import is_near_map, near_limit
from poolmaps.near.middles import Middles, middle_map, middle_rounds, near_ever, rootless
from tests.support import (
    WRONG, Case, binary_rows, is_int, is_int_tuple, marked_pools, not_numbers, not_pools, pair_pools, plain_words,
    slow_known, slow_run_views, small_pools, triple_pools, wrong_where,
)

PATH = pair_pool("RLB")
NO_POOLS = (InvalidPool, not_pools())
NO_ROUNDS = (InvalidNumber, not_numbers(0, 6))
NO_MOST = (InvalidNumber, not_numbers(1, 999))


def not_rows(size):
    return wrong_where(
        lambda value: is_int_tuple(value) and len(value) == size and all(0 <= entry <= 9 for entry in value),
        (0,) * (size + 1), (0,) * (size - 1), (10,) * size, (-1,) * size, [0] * size, (True,) * size)


def pair_of(value):
    """A fraction as the document tells it."""
    return (value.numerator, value.denominator.bit_length() - 1)


def slow_values(pool, row, block, word):
    values = [Fraction(entry) for entry in row]
    for at in range(len(word) // block):
        knowing = slow_known(pool, word[at * block:at * block + block])
        told = [[values[other] for other in known] for known in knowing]
        values = [(min(known) + max(known)) / 2 for known in told]
    return values


class MiddlesTest(Case):
    def checks_state(self, middles, pool, row, block, word):
        values = slow_values(pool, row, block, word)
        told = tuple(pair_of(value) for value in values)
        self.assertEqual((middles.fractions, middles.word, middles.block), (told, word, block))
        self.assertEqual((middles.blocks, len(middles)), (len(word) // block, len(word)))
        self.assertEqual(middles.spread, pair_of(max(values) - min(values)))
        self.assertEqual(str(middles), f"{len(word)} rounds: " + ", ".join(str(value) for value in values))
        for most in (1, 7, 999):
            self.assertEqual(middles.floors(most), tuple(int(most * value) for value in values))
        self.assertTrue(all(min(row) <= value <= max(row) for value in values))

    def test_words_round_by_round(self):
        for pool, block in product([*small_pools()[::4], star_pool(3), chain_pool(3)], (1, 2)):
            for row in binary_rows(pool.size):
                for word in plain_words(pool, 2 if len(pool.webs) > 3 else 3):
                    middles = Middles(pool, row, block=block)
                    self.checks_state(middles, pool, row, block, ())
                    for at, index in enumerate(word):
                        told = middles.go(index)
                        self.assertEqual(told, middles.fractions)
                        self.checks_state(middles, pool, row, block, word[:at + 1])

    def test_drawn_histories(self):
        drawn = Random(7)
        for pool in (PATH, pair_pool("RLBN"), chain_pool(4), snap_pool(3), star_pool(5)):
            for block in (1, 2, 3, 4):
                row = tuple(drawn.choice((0, 1, 1, 0, 9)) for _ in range(pool.size))
                middles, word = Middles(pool, row, block=block), ()
                for _ in range(30):
                    what = drawn.choice(("go", "go", "go", "undo", "twin"))
                    if what == "go":
                        word = (*word, drawn.randrange(len(pool.webs)))
                        self.assertEqual(middles.go(word[-1]), middles.fractions)
                    elif what == "undo":
                        many = drawn.randrange(min(5, len(word) + 1))
                        word = word[:len(word) - many]
                        self.assertEqual(middles.undo(many=many), middles.fractions)
                    else:
                        elder, middles = middles, middles.twin()
                        self.assertEqual(elder, middles)
                        elder.go(0)
                        elder.undo(many=min(len(elder), 3))
                        elder.go(len(pool.webs) - 1)
                    self.checks_state(middles, pool, row, block, word)
                    self.fails_keeping(NothingToUndo, len(word) + 1, middles.undo, many=len(word) + 1)

    def test_two_hundred_rounds_and_no_more(self):
        for block in (1, 3):
            middles = Middles(PATH, (0, 1), block=block)
            for at in range(200):
                middles.go(at % 2)
            self.checks_state(middles, PATH, (0, 1), block, (0, 1) * 100)
            self.fails_keeping(TooMany, 200, middles.go, 0)
            self.fails_keeping(InvalidNumber, 3, middles.go, 3)
            self.assertEqual(middles.undo(many=199), middles.fractions)
            self.checks_state(middles, PATH, (0, 1), block, (0,))
        far = Middles(Pool((full_web(2), pair_pool("R")[0])), (0, 1))
        for _ in range(200):
            far.go(1)
        self.assertEqual(far.fractions, ((0, 0), (1, 200)))
        self.assertEqual((far.spread, str(far)), ((1, 200), f"200 rounds: 0, 1/{2 ** 200}"))

    def test_wrong_arguments(self):
        self.checks_arguments(Middles, [PATH, (0, 1)], [NO_POOLS, (InvalidRow, not_rows(2))])
        for value in not_numbers(1, 4):
            self.fails_keeping(InvalidNumber, value, Middles, PATH, (0, 1), block=value)
            self.fails(InvalidRow, Middles, PATH, (0,), block=value)
            self.fails(InvalidPool, Middles, None, (0,), block=value)
        middles = Middles(PATH, (0, 1))
        middles.go(1)
        self.checks_arguments(middles.go, [0], [(InvalidNumber, not_numbers(0, 2))])
        self.checks_arguments(middles.floors, [1], [NO_MOST])
        for value in wrong_where(lambda value: is_int(value) and 0 <= value < 10 ** 60):
            self.fails_keeping(InvalidNumber, value, middles.undo, many=value)
        self.fails_keeping(NothingToUndo, 10 ** 60 - 1, middles.undo, many=10 ** 60 - 1)
        self.assertEqual((middles.word, middles.undo(), middles.undo(many=0)), ((1,), ((0, 0), (1, 0)), ((0, 0), (1, 0))))

    def test_equality(self):
        told = []
        for pool, row, block in ((PATH, (0, 1), 1), (PATH, (0, 1), 2), (PATH, (1, 0), 1), (pair_pool("LRB"), (0, 1), 1)):
            for word in ((), (0,), (1,), (0, 1)):
                middles = Middles(pool, row, block=block)
                for index in word:
                    middles.go(index)
                told.append(middles)
        for at, one in enumerate(told):
            for place, other in enumerate(told):
                self.assertIs(one == other.twin(), at == place)
                self.assertIs(one != other.twin(), at != place)
        for value in WRONG:
            self.assertIs(told[0] == value, False)
        with self.assertRaises(TypeError):
            iter(told[0])
        again = told[3].twin()
        again.undo()
        self.assertEqual(again, told[1])

    def test_rootless(self):
        for pool in [*small_pools(), *triple_pools(311, 3)]:
            bare = [index for index, web in enumerate(pool.webs) if not web.roots]
            self.assertEqual(rootless(pool), bare[0] if bare else None)
            self.assertIs(near_ever(pool), not bare)
            if bare and pool.size > 1:
                self.assertEqual([near_limit(pool, rounds) for rounds in (0, 1, 2)], [1, 1, 1])
        for call in (rootless, near_ever):
            self.checks_arguments(call, [PATH], [NO_POOLS])

    def test_middle_rounds(self):
        for size in range(1, 6):
            for most in (1, 2, 3, 4, 5, 8, 9, 511, 512, 513, 999):
                least = min(k for k in range(11) if 2 ** k >= most)
                self.assertEqual(middle_rounds(size, most), (size - 1) * least)
        self.checks_arguments(middle_rounds, [2, 3], [(InvalidNumber, not_numbers(1, 5)), NO_MOST])

    def test_middle_maps(self):
        for pool in [PATH, pair_pool("RL"), pair_pool("RB"), pair_pool("B"), snap_pool(1), marked_pools()[4], star_pool(3),
                     chain_pool(3), snap_pool(3), marked_pools()[5], star_pool(4), snap_pool(4)]:
            for most in (1, 2, 3, 4, 5, 8):
                rounds = middle_rounds(pool.size, most)
                if rounds > (4 if len(pool.webs) < 4 else 2):
                    continue
                if len(pool.webs) ** rounds * 2 ** pool.size > 4000:
                    self.fails(TooMany, middle_map, pool, rounds, most)
                    continue
                told = middle_map(pool, rounds, most)
                outputs = {}
                for (row, word), views in slow_run_views(pool, rounds, binary_rows(pool.size)).items():
                    values = slow_values(pool, row, max(1, pool.size - 1), word)
                    for view, value in zip(views, values):
                        self.assertEqual(outputs.setdefault(view, int(most * value)), int(most * value))
                self.assertEqual(list(told.items()), sorted(outputs.items()))
                self.assertTrue(is_near_map(pool, rounds, most, told))

    def test_wrong_arguments_of_middle_maps(self):
        self.checks_arguments(middle_map, [PATH, 1, 2], [NO_POOLS, NO_ROUNDS, NO_MOST])
        for rounds in range(7):
            for most in (1, 2, 3, 4, 64, 65, 999):
                if rounds != middle_rounds(2, most):
                    self.fails(InvalidOperation, middle_map, PATH, rounds, most)
                self.fails(InvalidOperation, middle_map, pair_pool("RN"), rounds, most)
        self.fails_keeping(InvalidNumber, 0, middle_map, pair_pool("RN"), 1, 0)
        self.fails_keeping(InvalidNumber, 7, middle_map, pair_pool("RN"), 7, 0)
        wide = Pool(tuple(full_web(2).with_mark(0, mark) for mark in range(55)))
        self.fails_keeping(TooMany, 3000, middle_map, wide, 2, 4)
        self.fails(InvalidOperation, middle_map, wide, 2, 2)
        self.fails(InvalidOperation, middle_map, Pool((*wide.webs, silent_web(2))), 2, 4)
        self.fails_keeping(TooMany, 4000, middle_map, Pool(wide.webs[:32]), 2, 4)
        self.fails_keeping(TooMany, 3000, middle_map, snap_pool(4), 3, 2)

    def test_each_block_halves_the_spread(self):
        for pool in (PATH, star_pool(3), chain_pool(3), chain_pool(4), snap_pool(3)):
            drawn = Random(11)
            for row in binary_rows(pool.size):
                middles = Middles(pool, row, block=pool.size - 1)
                for many in range(1, 4):
                    for _ in range(pool.size - 1):
                        middles.go(drawn.randrange(len(pool.webs)))
                    top, power = middles.spread
                    self.assertLessEqual(Fraction(top, 2 ** power), Fraction(1, 2 ** many))

    def test_no_sharing(self):
        told = middle_map(PATH, 1, 2)
        told.clear()
        self.assertTrue(middle_map(PATH, 1, 2))
        self.assertEqual(len(pair_pools()), 15)
