"""Part 7a: signs of words, with [7.1]."""

from functools import lru_cache
from itertools import product

from poolmaps.base.webs import Web, full_web, parting_web, silent_web
from poolmaps.counts.signs import (
    blocks_of, is_hidden, is_partner_way, partner_way, partner_word, web_sign, word_sign,
)
from poolmaps.errors import InvalidNumber, InvalidOperation, InvalidWeb, InvalidWord, TooMany
from tests.support import (
    SNAPS, ALL3, Case, looks_like_word, near_values, not_numbers, not_webs, not_words, own_partings, plain_words,
    slow_sights, wrong_where,
)

NO_SIZES = (InvalidNumber, not_numbers(1, 4))
LENGTHS = ((1, 3), (2, 3), (3, 2), (4, 1))


def slow_sign(size, word):
    """-1 to the number of threads that do not begin a block."""
    return (-1) ** sum(size - len(set(SNAPS[size][index].signals)) for index in word)


@lru_cache(None)
def slow_partners(size, rounds):
    """A dict from pairs (word, thread) to the list of other words that all other threads cannot tell apart."""
    sights = slow_sights(SNAPS[size], rounds)
    told = {}
    for word, thread in product(sights, range(size)):
        others = [t for t in range(size) if t != thread]
        told[word, thread] = [
            other for other in sights if other != word and all(sights[other][t] == sights[word][t] for t in others)]
    return told


class SignsTest(Case):
    def test_blocks(self):
        for size in range(1, 6):
            for blocks in own_partings(list(range(size)))[::1 if size < 5 else 7]:
                told = blocks_of(parting_web(blocks))
                self.assertEqual(told, blocks)
                self.assertEqual(web_sign(parting_web(blocks)), (-1) ** (size - len(blocks)))
        for call in (blocks_of, web_sign):
            for web in ALL3:
                if web in SNAPS[3]:
                    call(web)
                else:
                    self.fails(InvalidOperation, call, web)
            self.checks_arguments(call, [full_web(2)], [
                (InvalidWeb, wrong_where(lambda value: type(value) is Web))])
            self.fails(InvalidOperation, call, full_web(2).with_mark(0, 1))
            self.fails(InvalidOperation, call, silent_web(2))
        self.assertEqual(len(not_webs(2)) > 20, True)

    def test_signs(self):
        for size, rounds in LENGTHS:
            for many in range(rounds + 1):
                words = plain_words(SNAPS[size], many)
                signs = [word_sign(size, word) for word in words]
                self.assertEqual(signs, [slow_sign(size, word) for word in words])
                self.assertEqual(sum(signs), 1)
        self.assertEqual((word_sign(4, (74,) * 6), word_sign(1, (0,) * 6)), (1, 1))

    def test_partners(self):
        for size, rounds in LENGTHS:
            for many in range(rounds + 1):
                told = list(slow_partners(size, many).items())
                for (word, thread), others in told[::1 if size < 4 else 5]:
                    heard = any(
                        (other, thread) in SNAPS[size][index] for index in word for other in range(size))
                    self.assertIs(is_hidden(size, word, thread), not heard)
                    partner = partner_word(size, word, thread)
                    if not heard:
                        self.assertEqual((partner, others if size > 1 else []), (None, []))
                    else:
                        self.assertEqual([partner], others)
                        self.assertEqual(partner_word(size, partner, thread), word)
                        self.assertEqual(word_sign(size, partner), -word_sign(size, word))

    def test_ways(self):
        for size, rounds in LENGTHS:
            partners = slow_partners(size, rounds)
            words = plain_words(SNAPS[size], rounds)
            for one in words[::max(1, len(words) // 8)]:
                for other in words[::max(1, len(words) // 6)]:
                    way = partner_way(size, one, other)
                    self.assertEqual((way[0], way[-1]), (one, other))
                    self.assertLessEqual(len(way), 3000)
                    for front, behind in zip(way, way[1:]):
                        self.assertIn([behind], [partners[front, thread] for thread in range(size)])
                    self.assertIs(is_partner_way(size, way), True)
                    self.assertIs(is_partner_way(size, way + way[::-1][1:]), True)
        self.assertEqual((partner_way(3, (), ()), partner_way(2, (1,) * 6, (1,) * 6)), (((),), ((1,) * 6,)))
        self.assertEqual(len(partner_way(2, (0,) * 6, (1,) * 6)), 729)

    def test_values_near_ways(self):
        for size, way in ((2, partner_way(2, (0, 1), (1, 0))), (3, partner_way(3, (0,), (12,))), (1, ((0, 0),))):
            for value in [*near_values(way), (way[0], way[0]), (way[0],), ((),), ((), ())]:
                told = self.is_slow_way(size, value)
                self.assertIs(is_partner_way(size, value), told, value)
            self.judges(is_partner_way, [size])
        self.assertIs(is_partner_way(2, (((0,), (2,)) * 3000)), True)
        self.checks_arguments(is_partner_way, [2, None], [NO_SIZES, None])

    def is_slow_way(self, size, value):
        pool = SNAPS[size]
        if type(value) is not tuple or not value or not all(looks_like_word(pool, word) for word in value):
            return False
        for front, behind in zip(value, value[1:]):
            if len(front) != len(behind):
                return False
            partners = slow_partners(size, len(front)) if size > 1 else {}
            if not any([behind] == partners.get((front, thread)) for thread in range(size)):
                return False
        return True

    def test_wrong_arguments(self):
        no_words = (InvalidWord, not_words(SNAPS[3]))
        no_threads = (InvalidNumber, not_numbers(0, 2))
        self.checks_arguments(word_sign, [3, (0, 1)], [NO_SIZES, no_words])
        for call in (is_hidden, partner_word):
            self.checks_arguments(call, [3, (0, 1), 2], [NO_SIZES, no_words, no_threads])
        self.checks_arguments(partner_way, [3, (0, 1), (1, 0)], [NO_SIZES, no_words, no_words])
        for one, other in (((0,), ()), ((), (0, 0)), ((0, 0, 0, 0), (0,))):
            self.fails(InvalidOperation, partner_way, 3, one, other)
        self.fails(InvalidOperation, partner_way, 4, (0, 0), (0,))
        self.fails_keeping(TooMany, 3000, partner_way, 4, (0, 0), (0, 0))
        self.fails_keeping(TooMany, 3000, partner_way, 3, (0,) * 4, (1,) * 4)
