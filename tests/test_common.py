"""Part 2d: events, with [2.7] and [2.8]."""

from itertools import combinations

from poolmaps.base.pools import Pool, pair_pool, snap_pool
from poolmaps.base.webs import silent_web
from poolmaps.errors import InvalidNumber, InvalidOperation, InvalidPool, InvalidWord, TooMany
from poolmaps.known.common import all_know, commonly_known, knows, level
from poolmaps.known.lots import lots_of
from tests.support import (
    Case, is_int_tuple, long_pool, looks_like_word, not_numbers, not_pools, not_words, plain_words, slow_lots,
    slow_sights, small_pools, wrong_where,
)

POOL = pair_pool("RLB")
BIG = Pool(tuple(silent_web(2).with_mark(0, mark) for mark in range(55)))
PATH = Pool(tuple(silent_web(2).with_mark(0, i // 2).with_mark(1, (i + 1) // 2) for i in range(54)))
NO_POOLS = (InvalidPool, not_pools())
ROUNDS = (InvalidNumber, not_numbers(0, 6))


def slow_knows(sights, event, thread):
    """The definition: all words with the same sight belong to the event."""
    return tuple(
        word for word in sights
        if all(other in event for other in sights if sights[other][thread] == sights[word][thread])
    )


def slow_all_know(pool, sights, event, times):
    for _ in range(times):
        each = [slow_knows(sights, event, thread) for thread in range(pool.size)]
        event = tuple(word for word in event if all(word in known for known in each))
    return event


def events_of(pool, rounds, most=40):
    """Some events: all for few words, else those that lack or have few words."""
    words = plain_words(pool, rounds)
    if len(words) < 6:
        return [event for many in range(len(words) + 1) for event in combinations(words, many)]
    events = [(), tuple(words), tuple(words[::2])]
    for leave in range(0, len(words), max(1, len(words) // most)):
        events.append(tuple(word for at, word in enumerate(words) if at != leave))
    return events


def not_events(pool, rounds):
    def looks_right(value):
        return (type(value) is tuple and all(looks_like_word(pool, word) and len(word) == rounds for word in value)
                and list(value) == sorted(set(value)))

    more = (
        ((1,), (0,)), ((0,), (0,)), [(0,)], ((0,), [1]), ((0,), (0, 1)), ((0, 1),), ((0,), ()), ((True,),), ((3,),),
        ((-1,),), {(0,): 1}, ((0,), None), (((0,),),), ((0,), (1,), (55,)), "01", ((0,) * 7,),
    )
    return (InvalidOperation, wrong_where(looks_right, *more))


class EventsTest(Case):
    def test_events_of_small_pools(self):
        for pool in small_pools()[::2]:
            for rounds in (0, 1, 2):
                sights, lots = slow_sights(pool, rounds), slow_lots(pool, rounds)
                for event in events_of(pool, rounds, 5):
                    for thread in range(pool.size):
                        self.assertEqual(knows(pool, rounds, event, thread), slow_knows(sights, event, thread))
                    inside = tuple(sorted(word for lot in lots if set(lot) <= set(event) for word in lot))
                    self.assertEqual(commonly_known(pool, rounds, event), inside)
                    self.check_levels(pool, rounds, event, sights, inside)

    def check_levels(self, pool, rounds, event, sights, inside):
        told = {word: -1 for word in sights}
        now, times = event, 0
        while True:
            self.assertEqual(all_know(pool, rounds, event, times), now)
            told.update({word: times for word in now})
            behind = slow_all_know(pool, sights, now, 1)
            if behind == now:
                break
            now, times = behind, times + 1
        self.assertEqual(now, inside)
        self.assertEqual(all_know(pool, rounds, event, 3000), inside)
        for word in sights:
            self.assertEqual(level(pool, rounds, event, word), None if word in inside else told[word])

    def test_level_counts_neighbor_steps(self):
        words = plain_words(POOL, 3)
        sights = slow_sights(POOL, 3)
        for leave in words[::5]:
            event = tuple(word for word in words if word != leave)
            steps, last = {leave: 0}, [leave]
            while last:
                last = [word for word in words if word not in steps and any(
                    a == b for other in last for a, b in zip(sights[word], sights[other]))]
                steps.update({word: max(steps.values()) + 1 for word in last})
            for word in words:
                self.assertEqual(level(POOL, 3, event, word), steps[word] - 1)

    def test_times(self):
        event = ((0,), (2,))
        self.assertEqual(all_know(POOL, 1, event), all_know(POOL, 1, event, 1))
        self.assertEqual(all_know(POOL, 1, event, times=0), event)
        self.assertEqual([all_know(POOL, 1, event, times) for times in (1, 2, 3000)], [((0,),), (), ()])
        whole = tuple(plain_words(PATH, 2))
        self.assertEqual(all_know(PATH, 2, whole, 3000), whole)
        self.assertEqual(level(PATH, 2, whole[:-1], (0, 0)), 52)
        one = PATH.picked(tuple(range(40)))
        told = tuple(word for word in plain_words(one, 1)[:-1] if word[0] < 39 - 20)
        self.assertEqual(all_know(one, 1, tuple(plain_words(one, 1)[:-1]), 20), told)

    def test_empty_event_and_event_of_all_words(self):
        for pool in (POOL, snap_pool(1), pair_pool("RN")):
            for rounds in (0, 1, 3):
                whole = tuple(plain_words(pool, rounds))
                for call in (all_know, commonly_known):
                    self.assertEqual((call(pool, rounds, ()), call(pool, rounds, whole)), ((), whole))
                for thread in range(pool.size):
                    self.assertEqual(knows(pool, rounds, (), thread), ())
                    self.assertEqual(knows(pool, rounds, whole, thread), whole)
                for word in whole:
                    self.assertEqual(level(pool, rounds, (), word), -1)
                    self.assertIsNone(level(pool, rounds, whole, word))

    def test_six_rounds(self):
        words = tuple(plain_words(POOL, 6))
        self.assertEqual([len(knows(POOL, 6, words[1:], thread)) for thread in (0, 1)], [728, 727])
        self.assertEqual(commonly_known(POOL, 6, words[1:]), ())
        self.assertEqual(level(POOL, 6, words[1:], (1,) * 6), 3 ** 6 - 2)
        self.assertEqual(all_know(POOL, 6, words[1:], 726), ((1,) * 6, (1,) * 5 + (2,)))
        lots = lots_of(pair_pool("RL"), 6)
        self.assertEqual(commonly_known(pair_pool("RL"), 6, lots[3]), lots[3])

    def test_thousands_of_times(self):
        pool = long_pool()
        event = tuple(plain_words(pool, 2)[1:])
        self.assertEqual(level(pool, 2, event, (52, 52)), 2807)
        self.assertEqual(all_know(pool, 2, event, 2807), ((52, 52),))
        self.assertEqual((all_know(pool, 2, event, 2808), commonly_known(pool, 2, event)), ((), ()))
        self.assertEqual(len(all_know(pool, 2, event, 1000)), 1808)

    def test_wrong_arguments(self):
        event, good = not_events(POOL, 1), ((0,), (2,))
        self.checks_arguments(knows, [POOL, 1, good, 0], [NO_POOLS, ROUNDS, event, (InvalidNumber, not_numbers(0, 1))])
        self.checks_arguments(all_know, [POOL, 1, good, 0], [NO_POOLS, ROUNDS, event, (InvalidNumber, not_numbers(0, 3000))])
        self.checks_arguments(commonly_known, [POOL, 1, good], [NO_POOLS, ROUNDS, event])
        words = (InvalidWord, not_words(POOL, 1))
        self.checks_arguments(level, [POOL, 1, good, (0,)], [NO_POOLS, ROUNDS, event, words])
        self.assertFalse(any(is_int_tuple(word) and word in ((0,), (1,), (2,)) for word in words[1]))

    def test_too_many_words(self):
        self.fails_keeping(TooMany, 3000, knows, BIG, 2, (), 0)
        self.fails_keeping(TooMany, 3000, all_know, BIG, 2, ((0, 0),))
        self.fails_keeping(TooMany, 3000, all_know, BIG, 2, ((0, 0),), 0)
        self.fails_keeping(TooMany, 3000, commonly_known, BIG, 2, ())
        self.fails_keeping(TooMany, 3000, level, BIG, 2, (), (0, 0))
        event = (InvalidOperation, [None, ((0,),), [(0, 0)], ((0, 1), (0, 0))])
        threads, times = (InvalidNumber, [2, True, -1]), (InvalidNumber, [3001, -1, True, None])
        self.checks_arguments(knows, [BIG, 2, (), 0], [NO_POOLS, ROUNDS, event, threads])
        self.checks_arguments(all_know, [BIG, 2, (), 0], [NO_POOLS, ROUNDS, event, times])
        self.checks_arguments(commonly_known, [BIG, 2, ()], [NO_POOLS, ROUNDS, event])
        self.checks_arguments(level, [BIG, 2, (), (0, 0)], [NO_POOLS, ROUNDS, event, (InvalidWord, [(0,), None, (0, 55)])])
        whole = tuple(plain_words(BIG, 1))
        self.assertEqual((knows(BIG, 1, whole, 1), knows(BIG, 1, whole[1:], 1)), (whole, ()))
