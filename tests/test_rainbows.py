"""Part 7b: choices and rainbows, with [7.2]."""

from itertools import product
from random import Random

from poolmaps.base.pools import pair_pool, star_pool
from poolmaps.counts.rainbows import (
    Choice, choice_of, is_rainbow, picked_numbers, rainbow, rainbow_total, rainbows,
)
from poolmaps.errors import InvalidNumber, InvalidOperation, InvalidRule, InvalidWord, TooMany
from poolmaps.tasks.rules import Rule, does
from poolmaps.tasks.tasks import choice_task
from tests.support import (
    SNAPS, WRONG, Case, is_int, is_int_tuple, near_values, not_numbers, not_words, orders, plain_words, slow_run_views,
    wrong_where,
)
from tests.test_rules import not_rules
from tests.test_signs import slow_sign

NO_SIZES = (InvalidNumber, not_numbers(1, 4))
NO_ROUNDS = (InvalidNumber, not_numbers(0, 6))
CASES = ((1, 0), (1, 2), (2, 0), (2, 1), (2, 2), (3, 0), (3, 1), (3, 2), (4, 0), (4, 1))


def slow_known_by(size, rounds):
    """A dict from the pairs (thread, number) to the known threads, and one from the words to the numbers."""
    views = slow_run_views(SNAPS[size], rounds, [(0,) * size])
    known_by = {view[:2]: [other for other, _ in view[2]] for told in views.values() for view in told}
    return known_by, {word: tuple(view[1] for view in told) for (_, word), told in views.items()}


def drawn_choice(drawn, size, rounds):
    known_by, _ = slow_known_by(size, rounds)
    return Choice(size, rounds, {key: drawn.choice(known) for key, known in known_by.items()})


def slow_permutation_sign(picked):
    """-1 to the number of exchanges that lead to the order."""
    told, sign = list(picked), 1
    for at in range(len(told)):
        while told[at] != at:
            place = told[at]
            told[at], told[place] = told[place], told[at]
            sign = -sign
    return sign


def is_slow_picks(size, rounds, value):
    known_by, _ = slow_known_by(size, rounds)
    if type(value) is not dict or sorted(map(repr, value)) != sorted(map(repr, known_by)):
        return False
    return all(is_int(picked) and picked in known_by[key] for key, picked in value.items())


def some_choices():
    drawn = Random(89)
    return [drawn_choice(drawn, size, rounds) for size, rounds in CASES for _ in range(1 if rounds == 0 else 6)]


class RainbowsTest(Case):
    def test_properties(self):
        for choice in some_choices():
            known_by, numbers = slow_known_by(choice.size, choice.rounds)
            self.assertEqual(list(choice.picks), sorted(known_by))
            self.assertEqual(len(choice), len(known_by))
            self.assertEqual(
                str(choice), f"choice of {choice.size} threads, {choice.rounds} rounds: {len(known_by)} sights")
            self.assertEqual(Choice(choice.size, choice.rounds, dict(reversed(choice.picks.items()))), choice)
            for word in numbers:
                told = tuple(choice.picks[thread, number] for thread, number in enumerate(numbers[word]))
                self.assertEqual(choice.picked_by(word), told)

    def test_rainbows(self):
        for choice in some_choices():
            words = plain_words(SNAPS[choice.size], choice.rounds)
            picks = {word: choice.picked_by(word) for word in words}
            found = tuple(word for word in words if sorted(picks[word]) == list(range(choice.size)))
            self.assertEqual(rainbows(choice), found)
            self.assertIn(rainbow(choice), found)
            self.assertEqual(len(found) % 2, 1)
            for word in words:
                self.assertIs(is_rainbow(choice, word), word in found)
            total = sum(slow_sign(choice.size, word) * slow_permutation_sign(picks[word]) for word in found)
            self.assertEqual((rainbow_total(choice), total), (1, 1))
            numbers = tuple(sorted({len(set(picked)) for picked in picks.values()}))
            self.assertEqual(picked_numbers(choice), numbers)
            self.assertEqual(numbers, tuple(range(numbers[0], choice.size + 1)))

    def test_all_choices_of_two_threads(self):
        known_by, _ = slow_known_by(2, 1)
        for picks in product(*known_by.values()):
            choice = Choice(2, 1, dict(zip(known_by, picks)))
            self.assertEqual(rainbow_total(choice), 1)

    def test_values_near_rainbows(self):
        for choice in some_choices()[::5]:
            right = rainbows(choice)
            for value in [*near_values(right[0]), right, (), (0,) * 7]:
                self.assertIs(is_rainbow(choice, value), is_int_tuple(value) and value in right)
            self.judges(is_rainbow, [choice])

    def test_wrong_picks(self):
        wrong = wrong_where(lambda value: is_slow_picks(2, 1, value))
        good = {(0, 0): 0, (0, 1): 1, (1, 0): 0, (1, 1): 1}
        self.checks_arguments(Choice, [2, 1, good], [NO_SIZES, NO_ROUNDS, (InvalidRule, wrong)])
        for value in near_values(good):
            if is_slow_picks(2, 1, value):
                self.assertEqual(Choice(2, 1, value).picks, value)
            else:
                self.fails(InvalidRule, Choice, 2, 1, value)
        self.fails_keeping(TooMany, 3000, Choice, 4, 2, None)
        self.fails_keeping(TooMany, 3000, Choice, 3, 4, None)
        self.fails(InvalidRule, Choice, 2, 6, good)
        self.fails(InvalidRule, Choice, 2, 1, {**good, (0, 0): 1})

    def test_with_pick(self):
        for choice in some_choices()[::2]:
            known_by, _ = slow_known_by(choice.size, choice.rounds)
            for (thread, number), known in list(known_by.items())[::3]:
                for picked in range(choice.size):
                    if picked in known:
                        told = choice.with_pick(thread, number, picked)
                        self.assertEqual(told.picks, {**choice.picks, (thread, number): picked})
                    else:
                        self.fails(InvalidOperation, choice.with_pick, thread, number, picked)
        choice = Choice(2, 1, {(0, 0): 0, (0, 1): 1, (1, 0): 0, (1, 1): 1})
        self.checks_arguments(choice.with_pick, [0, 1, 1], [
            (InvalidNumber, not_numbers(0, 1)), (InvalidNumber, not_numbers(0, 1)),
            (InvalidOperation, wrong_where(lambda value: is_int(value) and value in (0, 1)))])

    def test_wrong_arguments(self):
        choice = Choice(2, 1, {(0, 0): 0, (0, 1): 1, (1, 0): 0, (1, 1): 1})
        self.checks_arguments(choice.picked_by, [(0,)], [(InvalidWord, not_words(SNAPS[2], 1))])
        no_choices = (InvalidRule, wrong_where(lambda value: False, choice.picks))
        for call, more in ((rainbows, []), (rainbow, []), (is_rainbow, [None]), (rainbow_total, []), (picked_numbers, [])):
            self.checks_arguments(call, [choice, *more], [no_choices, *[None for _ in more]])

    def test_equality_and_sharing(self):
        told = some_choices()
        for at, one in enumerate(told):
            for other in told:
                same = (one.size, one.rounds, one.picks) == (other.size, other.rounds, other.picks)
                self.assertIs(one == other, same)
                self.assertIs(one != other, not same)
            for value in WRONG:
                self.assertIs(one == value, False)
        picks = told[5].picks
        choice = Choice(told[5].size, told[5].rounds, picks)
        picks.clear()
        choice.picks.clear()
        self.assertEqual(choice, told[5])

    def test_choices_of_rules(self):
        drawn = Random(97)
        for size, rounds in CASES:
            pool, row = SNAPS[size], tuple(range(size))
            views = sorted({view for told in slow_run_views(pool, rounds, [row]).values() for view in told})
            for _ in range(3):
                table = {view: drawn.choice(view[2])[0] for view in views}
                rule = Rule(pool, rounds, {**table, (0, 0, tuple((t, 7) for t, _ in views[0][2])): 99})
                choice = choice_of(rule)
                self.assertEqual(choice.picks, {view[:2]: output for view, output in table.items()})
                if size > 1:
                    self.assertFalse(does(rule, choice_task(size, size - 1)))
                broken = Rule(pool, rounds, dict(list(table.items())[1:]))
                self.fails(InvalidOperation, choice_of, broken)
                for output in (size, 99, *[t for t in range(size) if t not in dict(views[0][2])]):
                    self.fails(InvalidOperation, choice_of, rule.with_output(views[0], output))
        self.checks_arguments(choice_of, [rule], [(InvalidRule, not_rules())])
        for pool in (pair_pool("LRB"), pair_pool("RL"), star_pool(3), star_pool(5)):
            size = pool.size
            rule = Rule(pool, 0, {(t, 0, ((t, t),)): t for t in range(size)})
            self.fails(InvalidOperation, choice_of, rule)
        self.assertEqual(choice_of(Rule(SNAPS[3], 0, {(t, 0, ((t, t),)): t for t in range(3)})).picked_by(()), (0, 1, 2))
        self.assertEqual(len(orders(3)), 6)
