"""Part 2e: stories."""

from poolmaps.base.pools import Pool, chain_pool, pair_pool, snap_pool
from poolmaps.base.webs import silent_web
from poolmaps.errors import InvalidNumber, InvalidPool, NothingToUndo, TooMany
from poolmaps.known.stories import Story
from poolmaps.known.words import known
from tests.support import WRONG, Case, is_int, not_numbers, not_pools, plain_words, slow_sight, wrong_where

POOL = pair_pool("RLB")
BIG = Pool(tuple(silent_web(2).with_mark(0, mark) for mark in range(55)))


def told(pool, word):
    story = Story(pool)
    for index in word:
        story.go(index)
    return story


class StoryTest(Case):
    def test_a_story_begins_without_a_round(self):
        story = Story(chain_pool(3))
        self.assertEqual((story.word, story.pool, story.knowing), ((), chain_pool(3), ((0,), (1,), (2,))))
        self.assertEqual((len(story), bool(story), str(story)), (0, False, "story of 0 rounds: -"))
        self.checks_arguments(Story, [POOL], [(InvalidPool, not_pools())])
        self.assertIs(bool(Story(snap_pool(1))), True)

    def test_rounds(self):
        for word in plain_words(POOL, 3):
            story = Story(POOL)
            for many in range(1, 4):
                self.assertEqual(story.go(word[many - 1]), known(POOL, word[:many]))
                self.assertEqual((story.word, story.knowing), (word[:many], known(POOL, word[:many])))
            everyone = set(story.knowing[0]) & set(story.knowing[1])
            self.assertIs(bool(story), len(everyone) > 0)
            self.assertEqual(str(story), "story of 3 rounds: " + " ".join(map(str, word)))
            self.assertEqual(len(story), 3)

    def test_six_rounds_and_no_more(self):
        story = told(POOL, (0, 1, 2, 0, 1, 2))
        for index in (0, 2):
            self.fails_keeping(TooMany, 6, story.go, index)
        self.checks_arguments(story.go, [0], [(InvalidNumber, not_numbers(0, 2))])
        self.assertEqual(story.word, (0, 1, 2, 0, 1, 2))

    def test_undo_and_redo(self):
        story = told(POOL, (0, 1, 2))
        self.assertEqual(story.undo(), known(POOL, (0, 1)))
        self.assertEqual(story.undo(many=2), known(POOL, ()))
        self.assertEqual(story.redo(), known(POOL, (0,)))
        self.assertEqual((story.redo(many=2), story.word), (known(POOL, (0, 1, 2)), (0, 1, 2)))
        self.assertEqual((story.undo(many=0), story.redo(many=0)), (story.knowing, story.knowing))
        self.assertEqual(story.word, (0, 1, 2))
        story.undo(many=2)
        story.undo(many=0)
        self.assertEqual((story.redo(many=2), story.word), (known(POOL, (0, 1, 2)), (0, 1, 2)))

    def test_another_round_ends_what_can_be_done_again(self):
        for index in (1, 2):
            story = told(POOL, (0, 1, 2))
            story.undo(many=2)
            story.go(index)
            self.fails_keeping(NothingToUndo, 1, story.redo)
            self.assertEqual((story.redo(many=0), story.word), (known(POOL, (0, index)), (0, index)))
            story.undo()
            story.redo()
            self.assertEqual(story.word, (0, index))

    def test_a_failed_call_changes_nothing(self):
        story = told(POOL, (0, 1))
        story.undo()
        for value in not_numbers(0, 2):
            self.fails_keeping(InvalidNumber, value, story.go, value)
        self.fails_keeping(NothingToUndo, 2, story.undo, many=2)
        self.fails_keeping(NothingToUndo, 2, story.redo, many=2)
        self.assertEqual(story.word, (0,))
        self.assertEqual((story.redo(), story.word), (known(POOL, (0, 1)), (0, 1)))
        full = told(POOL, (0,) * 6)
        full.undo()
        full.redo()
        self.fails_keeping(TooMany, 6, full.go, 1)
        full.undo(many=6)
        self.fails(InvalidNumber, full.go, 3)
        full.redo(many=6)
        self.assertEqual(full.word, (0,) * 6)

    def test_wrong_many(self):
        story = told(POOL, (0, 1))
        story.undo()
        wrong = wrong_where(lambda value: is_int(value) and 0 <= value < 10 ** 60)
        for call in (story.undo, story.redo):
            for value in wrong:
                self.fails_keeping(InvalidNumber, value, call, many=value)
            for value in (2, 7, 10 ** 59, 10 ** 60 - 1):
                self.fails_keeping(NothingToUndo, value, call, many=value)
        self.assertEqual(story.word, (0,))

    def test_possible(self):
        for word in plain_words(POOL, 2):
            story = told(POOL, word)
            for thread in (0, 1):
                same = tuple(o for o in plain_words(POOL, 2) if slow_sight(POOL, o, thread) == slow_sight(POOL, word, thread))
                self.assertEqual(story.possible(thread), same)
            self.checks_arguments(story.possible, [0], [(InvalidNumber, not_numbers(0, 1))])
        self.assertEqual(Story(snap_pool(4)).possible(3), ((),))

    def test_possible_with_too_many_words(self):
        story = told(BIG, (3,))
        self.assertEqual((story.possible(0), len(story.possible(1))), (((3,),), 55))
        story.go(4)
        for thread in (0, 1):
            self.fails_keeping(TooMany, 3000, story.possible, thread)
        self.fails_keeping(InvalidNumber, 2, story.possible, 2)
        self.assertEqual(story.knowing, ((0,), (1,)))

    def test_twin(self):
        story = told(POOL, (0, 1, 2))
        story.undo(many=2)
        twin = story.twin()
        self.assertEqual((twin, twin.word), (story, (0,)))
        self.assertIsNot(twin, story)
        twin.redo()
        self.assertEqual((twin.word, story.word), ((0, 1), (0,)))
        story.go(2)
        self.assertEqual((twin.redo(), twin.word), (known(POOL, (0, 1, 2)), (0, 1, 2)))
        self.fails(NothingToUndo, story.redo)
        twin.undo(many=3)
        self.assertEqual(story.word, (0, 2))

    def test_equality(self):
        stories = [told(pool, word) for pool in (POOL, pair_pool("LRB"), snap_pool(3)) for word in ((), (0,), (0, 1))]
        for at, one in enumerate(stories):
            for place, other in enumerate(stories):
                self.assertIs(one == other.twin(), at == place)
                self.assertIs(one != other.twin(), at != place)
        for value in [*WRONG, (0,), POOL]:
            self.assertIs(stories[1] == value, False)
            self.assertIs(stories[1] != value, True)
        again = told(POOL, (0, 1))
        again.undo()
        self.assertEqual(again, stories[1])

    def test_no_iteration(self):
        for call in (iter, list):
            with self.assertRaises(TypeError):
                call(told(POOL, (0, 1)))
