"""Part 1b: webs, with [0.7], [0.12] and [1.1]."""

from itertools import product

from poolmaps.base.pools import Pool, snap_pool
from poolmaps.base.webs import Web, chain_web, full_web, parting_web, silent_web, star_web
from poolmaps.errors import InvalidNumber, InvalidOperation, InvalidWeb
from poolmaps.known.words import known
from tests.support import ALL3, WRONG, Case, all_webs, is_int, not_numbers, not_webs, orders, wrong_where

RIGHT, LEFT, BOTH = Web(((), (0,))), Web(((1,), ())), Web(((1,), (0,)))
CHAIN = Web(((), (0,), (1,)), (4, 0, 9999))


def pairs_of(web):
    return {(thread, other) for thread, others in enumerate(web.heard) for other in others}


def web_from(size, pairs, marks=None):
    return Web(tuple(tuple(o for o in range(size) if (t, o) in pairs) for t in range(size)), marks)


def slow_reached(web):
    """All pairs (from, to) that ways join, by Warshall's closure."""
    size = len(web.heard)
    ways = {(t, t) for t in range(size)} | {(other, thread) for thread, other in pairs_of(web)}
    for via, one, two in product(range(size), repeat=3):
        if (one, via) in ways and (via, two) in ways:
            ways.add((one, two))
    return ways


def looks_like_heard(value):
    return (type(value) is tuple and 1 <= len(value) <= 5 and all(
        type(others) is tuple and all(is_int(o) and 0 <= o < len(value) and o != t for o in others)
        and list(others) == sorted(set(others)) for t, others in enumerate(value)))


class WebTest(Case):
    def test_properties(self):
        self.assertEqual((CHAIN.heard, CHAIN.marks, CHAIN.size), (((), (0,), (1,)), (4, 0, 9999), 3))
        self.assertEqual(CHAIN.signals, (((0,), 4), ((0, 1), 0), ((1, 2), 9999)))
        self.assertEqual((CHAIN.roots, CHAIN.is_marked, BOTH.is_marked), ((0,), True, False))
        self.assertEqual((BOTH.marks, Web(((),)).roots, Web(((),)).marks), ((0, 0), (0,), (0,)))

    def test_sizes_and_marks_at_their_edges(self):
        for size in range(1, 6):
            web = Web(((),) * size, (9999,) * size)
            self.assertEqual((web.size, web.marks), (size, (9999,) * size))
        for heard in (((),) * 6, (), ((0,),), ((1,), (1,)), ((1, 1), ()), ((2,), ()), ((2, 1), (), ()), [(), ()]):
            self.fails(InvalidWeb, Web, heard)
        for marks in ((0,), (0, 0, 0), (0, 10000), (-1, 0), (True, 0), (0, False), [0, 0], 0, (), {}, "00"):
            self.fails(InvalidWeb, Web, ((), ()), marks)
            self.fails(InvalidWeb, Web, ((), (True,)), marks)

    def test_wrong_values_make_no_web(self):
        for value in wrong_where(looks_like_heard, ((True,), ()), ((1,), (False,)), ((1, 10 ** 100 - 1), ())):
            self.fails(InvalidWeb, Web, value)
        for value in WRONG:
            if value is not None and not (type(value) is tuple and len(value) == 2 and all(map(is_int, value))):
                self.fails(InvalidWeb, Web, ((), ()), value)

    def test_marks_of_none_are_all_0(self):
        self.assertEqual(Web(((), ()), None), silent_web(2))
        self.assertEqual(Web(((), ()), (0, 0)), silent_web(2))
        self.assertEqual(Web(((), ()), marks=(0, 1)), silent_web(2).with_mark(1, 1))

    def test_webs_never_change(self):
        for name in ("heard", "marks", "size", "signals", "roots", "is_marked"):
            with self.assertRaises(AttributeError):
                setattr(CHAIN, name, ())

    def test_signal_hears_reached(self):
        self.assertEqual((CHAIN.signal(2), CHAIN.hears(1), CHAIN.reached(1)), (((1, 2), 9999), (0, 1), (1, 2)))
        for call in (CHAIN.signal, CHAIN.hears, CHAIN.reached):
            self.checks_arguments(call, [0], [(InvalidNumber, not_numbers(0, 2))])

    def test_roots_and_ways_of_all_small_webs(self):
        for web in [*all_webs(1), *all_webs(2), *ALL3, *all_webs(4)[::7]]:
            ways = slow_reached(web)
            for thread in range(web.size):
                self.assertEqual(web.reached(thread), tuple(o for o in range(web.size) if (thread, o) in ways))
            roots = tuple(t for t in range(web.size) if all((t, o) in ways for o in range(web.size)))
            self.assertEqual(web.roots, roots)
            for root in roots:
                self.assertTrue(set(web.hears(root)) <= set(roots))

    def test_with_and_without_hearing(self):
        for web in ALL3:
            marked = web.with_mark(1, 7)
            pairs = pairs_of(web)
            for thread, other in product(range(3), repeat=2):
                if thread == other:
                    self.fails(InvalidOperation, web.with_hearing, thread, other)
                    self.fails(InvalidOperation, web.without_hearing, thread, other)
                elif (thread, other) in pairs:
                    self.fails(InvalidOperation, web.with_hearing, thread, other)
                    less = marked.without_hearing(thread, other)
                    self.assertEqual(less, web_from(3, pairs - {(thread, other)}, (0, 7, 0)))
                else:
                    self.fails(InvalidOperation, web.without_hearing, thread, other)
                    more = marked.with_hearing(thread, other)
                    self.assertEqual(more, web_from(3, pairs | {(thread, other)}, (0, 7, 0)))
            self.assertEqual(pairs_of(web), pairs)

    def test_wrong_threads_to_hear(self):
        wrong = (InvalidNumber, not_numbers(0, 2))
        for call, good in ((CHAIN.with_hearing, [0, 1]), (CHAIN.without_hearing, [1, 0]),
                           (CHAIN.with_hearing, [1, 0]), (CHAIN.without_hearing, [2, 2])):
            self.checks_arguments(call, good, [wrong, wrong])

    def test_with_mark_and_unmarked(self):
        self.assertEqual(CHAIN.with_mark(1, 0), CHAIN)
        self.assertEqual(CHAIN.with_mark(0, 9999).marks, (9999, 0, 9999))
        self.assertEqual(CHAIN.with_mark(2, 0).marks, (4, 0, 0))
        self.assertEqual(CHAIN.unmarked(), Web(((), (0,), (1,))))
        self.assertEqual(CHAIN.marks, (4, 0, 9999))
        wrong = [(InvalidNumber, not_numbers(0, 2)), (InvalidNumber, not_numbers(0, 9999))]
        self.checks_arguments(CHAIN.with_mark, [0, 0], wrong)

    def test_two_webs_together(self):
        for one in [web.with_mark(0, 3) for web in ALL3[::3]]:
            for other in [web.with_mark(1, 8) for web in ALL3[::2]]:
                first, second = pairs_of(one), pairs_of(other)
                self.assertEqual(one.joined(other), web_from(3, first | second, (3, 0, 0)))
                self.assertEqual(one.shared(other), web_from(3, first & second, (3, 0, 0)))
                behind = known(Pool((one, other)), (0, 1))
                told = {(t, o) for t in range(3) for o in behind[t] if t != o}
                self.assertEqual(one.then(other), web_from(3, told, (3, 0, 0)))
                self.assertIs(one.is_within(other), first <= second)

    def test_webs_that_do_not_fit(self):
        for call in (CHAIN.joined, CHAIN.shared, CHAIN.then, CHAIN.is_within):
            self.checks_arguments(call, [CHAIN], [(InvalidWeb, [*not_webs(3), CHAIN.heard])])

    def test_renumbered(self):
        self.assertEqual(CHAIN.renumbered((2, 0, 1)), Web(((2,), (0,), ()), (0, 9999, 4)))
        for web in ALL3:
            for numbers in orders(3):
                moved = {(numbers[t], numbers[o]) for t, o in pairs_of(web)}
                marks = tuple(numbers.index(t) + 1 for t in range(3))
                told = Web(web.heard, (1, 2, 3)).renumbered(numbers)
                self.assertEqual(told, web_from(3, moved, marks))
        more = ((0, 1), (0, 1, 1), (0, 1, 3), (0, 1, 2, 3), [0, 1, 2], (0, True, 2), (-1, 0, 1), (1, 2, 3), "012")
        wrong = wrong_where(lambda value: value in orders(3), *more)
        self.checks_arguments(CHAIN.renumbered, [(0, 1, 2)], [(InvalidOperation, wrong)])
        self.assertEqual(Web(((),)).renumbered((0,)), Web(((),)))
        self.fails(InvalidOperation, Web(((),)).renumbered, (False,))

    def test_pairs_in_a_web(self):
        for web in [*all_webs(2), *ALL3]:
            self.assertEqual(len(web), len(pairs_of(web)))
            for thread, other in product(range(-1, 4), repeat=2):
                self.assertIs((thread, other) in web, (thread, other) in pairs_of(web))
        for value in WRONG:
            self.assertIs(value in BOTH, value in [(0, 1), (1, 0)] and all(map(is_int, value)))
        for value in ((True, 0), (1, False), [1, 0], (1, 0, 0), (1,), (-1, 0), ("1", "0")):
            self.assertNotIn(value, BOTH)

    def test_equality(self):
        webs = [*ALL3[:8], *[web.with_mark(0, 1) for web in ALL3[:8]]]
        for at, one in enumerate(webs):
            for place, other in enumerate(webs):
                self.assertIs(one == Web(other.heard, other.marks), at == place)
                self.assertIs(one != Web(other.heard, other.marks), at != place)
        for value in [*WRONG, CHAIN.heard]:
            self.assertIs(CHAIN == value, False)
            self.assertIs(CHAIN != value, True)

    def test_no_iteration(self):
        for call in (iter, list, tuple):
            with self.assertRaises(TypeError):
                call(BOTH)

    def test_texts(self):
        texts = {
            "web of 3 threads: 0 hears 2, 1 hears 0": Web(((2,), (0,), ())),
            "web of 2 threads: nobody hears": silent_web(2),
            "web of 1 threads: nobody hears; marks 9999": Web(((),), (9999,)),
            "web of 3 threads: nobody hears; marks 0 5 0": silent_web(3).with_mark(1, 5),
            "web of 3 threads: 1 hears 0, 2 hears 1; marks 4 0 9999": CHAIN,
            "web of 3 threads: 0 hears 1, 0 hears 2, 1 hears 0": Web(((1, 2), (0,), ())),
        }
        for text, web in texts.items():
            self.assertEqual(str(web), text)


class NamedWebsTest(Case):
    def test_named_webs(self):
        for size in range(1, 6):
            threads = range(size)
            self.assertEqual(silent_web(size), web_from(size, set()))
            self.assertEqual(full_web(size), web_from(size, set(product(threads, threads)) - {(t, t) for t in threads}))
            for thread in threads:
                self.assertEqual(star_web(size, thread), web_from(size, {(t, thread) for t in threads if t != thread}))
                heard = chain_web(size, thread).heard
                self.assertEqual(heard[thread], ())
                for other in threads:
                    if other != thread:
                        self.assertEqual(heard[other], (other - 1 if other else size - 1,))

    def test_wrong_sizes_and_threads(self):
        for call in (silent_web, full_web):
            self.checks_arguments(call, [2], [(InvalidNumber, not_numbers(1, 5))])
        for call in (star_web, chain_web):
            self.checks_arguments(call, [3, 0], [(InvalidNumber, not_numbers(1, 5)), (InvalidNumber, not_numbers(0, 2))])

    def test_parting_webs(self):
        for size in range(1, 6):
            for ranks in product(range(size), repeat=size):
                if set(ranks) != set(range(max(ranks) + 1)):
                    continue
                blocks = tuple(tuple(t for t in range(size) if ranks[t] == r) for r in range(max(ranks) + 1))
                web = parting_web(blocks)
                for thread in range(size):
                    heard = tuple(o for o in range(size) if ranks[o] <= ranks[thread])
                    self.assertEqual(web.hears(thread), heard)
                self.assertEqual(web.roots, blocks[0])
                for one, other in product(range(size), repeat=2):
                    self.assertTrue(one == other or (one, other) in web or (other, one) in web)

    def test_wrong_blocks(self):
        more = (
            ((1,),), ((0,), (0,)), ((0,), ()), ((1, 0),), ((0, 2),), ((0,), (2,)), ((0, 1, 2, 3, 4, 5),),
            tuple((t,) for t in range(6)), [(0,)], ([0],), ((0,), (True,)), ((False,),), ((0, 0),), ((-1, 0),), 0,
            (0, 1), ((0, 10 ** 99),), "0", ((0,), None), ((), (0,)),
        )

        def looks_right(value):
            return value in (((0,),), ((0, 1),), ((1,), (0,)), ((0,), (1,))) and all(map(is_int, sum(value, ())))

        self.checks_arguments(parting_web, [((0,),)], [(InvalidOperation, wrong_where(looks_right, *more))])

    def test_roots_are_known_behind_enough_rounds(self):
        pool = Pool(tuple(ALL3))
        for index, web in enumerate(ALL3):
            for other in range(64):
                for word in ((index, index, other), (index, other, index), (other, index, index)):
                    behind = known(pool, word)
                    for root in web.roots:
                        self.assertTrue(all(root in each for each in behind))
        pool = Pool((*snap_pool(4).webs[:40:3], *[chain_web(4, t) for t in range(4)], silent_web(4)))
        last = len(pool) - 1
        for index, web in enumerate(pool.webs):
            for word in ((index, last, index, 0, last, index), (last, index, index, last, 3, index)):
                behind = known(pool, word)
                for root in web.roots:
                    self.assertTrue(all(root in each for each in behind))
