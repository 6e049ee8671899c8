"""Part 7c: names by order, with [7.3] to [7.5]."""

from functools import lru_cache
from itertools import combinations, permutations, product
from math import comb, gcd
from random import Random

from poolmaps.counts.names import (
    OrderRule, as_rule, barring_group, clash, is_barred, is_clash, is_unlike, names_task, pattern_of, patterns,
    rank_rule, triangle,
)
from poolmaps.errors import InvalidNumber, InvalidOperation, InvalidRule, InvalidWord, TooMany
from poolmaps.tasks.rules import Rule, does
from poolmaps.tasks.tasks import Task
from tests.support import (
    SNAPS, WRONG, Case, is_int, is_int_tuple, looks_like_word, near_values, not_numbers, not_words, plain_words,
    slow_run_views, wrong_where,
)
from tests.test_signs import slow_sign

NO_SIZES = (InvalidNumber, not_numbers(1, 4))
NO_ROUNDS = (InvalidNumber, not_numbers(0, 6))
CASES = ((1, 0), (1, 3), (2, 0), (2, 1), (2, 2), (3, 0), (3, 1), (3, 2), (4, 0), (4, 1))


@lru_cache(None)
def slow_pattern(size, word, thread, inputs=None):
    """The definition: who is known, by ranks, and the signals that are known, round by round."""
    pool = SNAPS[size]
    inputs = inputs or tuple(range(size))
    signals, known = [], {thread}
    for index in reversed(word):
        heard = {each: set(pool[index].hears(each)) for each in known}
        signals.append(heard)
        known = set().union(*heard.values())
    rank = {each: sum(inputs[other] < inputs[each] for other in known) for each in known}
    rows = tuple(
        tuple(sorted((rank[each], tuple(sorted(rank[other] for other in others))) for each, others in heard.items()))
        for heard in signals)
    return (rank[thread], rows)


@lru_cache(None)
def slow_words(size, rounds):
    return [(many, word) for many in range(1, size + 1) for word in plain_words(SNAPS[many], rounds)]


@lru_cache(None)
def slow_patterns(size, rounds):
    return sorted({
        slow_pattern(many, word, thread) for many, word in slow_words(size, rounds) for thread in range(many)})


def drawn_rule(drawn, size, rounds, most):
    return OrderRule(size, rounds, {pattern: drawn.randrange(1, most + 1) for pattern in slow_patterns(size, rounds)})


def some_rules():
    drawn = Random(101)
    told = [drawn_rule(drawn, size, rounds, most) for size, rounds in CASES for most in (2, 5, 99)]
    return told + [rank_rule(size) for size in (1, 2, 3, 4)]


def slow_names(rule):
    given = rule.names
    return {
        (many, word): tuple(given[slow_pattern(many, word, thread)] for thread in range(many))
        for many, word in slow_words(rule.size, rule.rounds)}


class PatternsTest(Case):
    def test_patterns(self):
        for size, rounds in CASES:
            for word in plain_words(SNAPS[size], rounds):
                for thread in range(size):
                    self.assertEqual(pattern_of(size, word, thread), slow_pattern(size, word, thread))
            self.assertEqual(patterns(size, rounds), tuple(slow_patterns(size, rounds)))
        self.assertEqual(pattern_of(2, (0,), 1), (1, (((1, (0, 1)),),)))
        self.assertEqual(pattern_of(2, (0, 0), 1), (1, (((1, (0, 1)),), ((0, (0,)), (1, (0, 1))))))
        self.assertEqual(pattern_of(3, (), 2), (0, ()))
        self.assertEqual(pattern_of(4, (74,) * 6, 3), slow_pattern(4, (74,) * 6, 3))

    def test_wrong_arguments(self):
        self.checks_arguments(pattern_of, [3, (0, 1), 2], [
            NO_SIZES, (InvalidWord, not_words(SNAPS[3])), (InvalidNumber, not_numbers(0, 2))])
        self.checks_arguments(patterns, [2, 1], [NO_SIZES, NO_ROUNDS])
        for size, rounds in ((4, 2), (3, 4), (4, 6)):
            self.fails_keeping(TooMany, 3000, patterns, size, rounds)
            self.fails_keeping(TooMany, 3000, OrderRule, size, rounds, None)


class OrderRuleTest(Case):
    def test_properties(self):
        for rule in some_rules():
            told = slow_patterns(rule.size, rule.rounds)
            names = rule.names
            self.assertEqual((list(names), len(rule), rule.greatest), (told, len(told), max(names.values())))
            self.assertEqual(
                str(rule), f"order rule of {rule.size} threads, {rule.rounds} rounds: names to {max(names.values())}")
            self.assertEqual(OrderRule(rule.size, rule.rounds, dict(reversed(names.items()))), rule)
            for (many, word), names_told in list(slow_names(rule).items())[::3]:
                self.assertEqual(rule.names_in(many, word), names_told)

    def test_wrong_names(self):
        good = rank_rule(2).names
        right = {repr(pattern) for pattern in good}

        def is_right(value):
            return (type(value) is dict and {repr(key) for key in value} == right and len(value) == len(right)
                    and all(is_int(name) and 1 <= name <= 99 for name in value.values()))

        self.checks_arguments(OrderRule, [2, 1, good], [NO_SIZES, NO_ROUNDS, (InvalidRule, wrong_where(is_right))])
        for value in [*near_values(good), {**good, (0, ()): 1}]:
            if is_right(value):
                self.assertEqual(OrderRule(2, 1, value).names, value)
            else:
                self.fails(InvalidRule, OrderRule, 2, 1, value)
        self.fails(InvalidRule, OrderRule, 3, 1, good)
        self.fails(InvalidRule, OrderRule, 2, 2, good)

    def test_names_in(self):
        rule = rank_rule(3)
        self.checks_arguments(rule.names_in, [2, (0,)], [
            (InvalidNumber, not_numbers(1, 3)), (InvalidWord, not_words(SNAPS[2], 1))])
        self.fails_keeping(InvalidNumber, 4, rule.names_in, 4, (0,))

    def test_mapped(self):
        for rule in some_rules():
            there = sorted(set(rule.names.values()))
            table = {name: (name * 3) % 99 + 1 for name in reversed(there)}
            self.assertEqual(rule.mapped(table).names, {pattern: table[name] for pattern, name in rule.names.items()})
        rule = rank_rule(2)
        good = {1: 5, 2: 5, 3: 99}

        def is_right(value):
            return (type(value) is dict and sorted(map(repr, value)) == ["1", "2", "3"]
                    and all(is_int(name) and 1 <= name <= 99 for name in value.values()))

        for value in [*WRONG, *near_values(good), {1: 5, 2: 5}, {1: 5, 2: 5, 3: 0}, {1: 5, 2: 5, 3: 100}, {True: 5, 2: 5, 3: 9}]:
            if not is_right(value):
                self.fails(InvalidOperation, rule.mapped, value)
        self.assertEqual(rule.mapped(good).greatest, 99)

    def test_for_fewer(self):
        for rule in some_rules():
            for size in range(1, rule.size + 1):
                told = rule.for_fewer(size)
                names = {pattern: rule.names[pattern] for pattern in slow_patterns(size, rule.rounds)}
                self.assertEqual(told, OrderRule(size, rule.rounds, names))
            self.checks_arguments(rule.for_fewer, [1], [(InvalidNumber, not_numbers(1, rule.size))])

    def test_equality_and_sharing(self):
        told = some_rules()
        for one, other in product(told, repeat=2):
            same = (one.size, one.rounds, one.names) == (other.size, other.rounds, other.names)
            self.assertIs(one == other, same)
            self.assertIs(one != other, not same)
        for value in WRONG:
            self.assertIs(told[0] == value, False)
        names = told[5].names
        rule = OrderRule(told[5].size, told[5].rounds, names)
        names.clear()
        rule.names.clear()
        self.assertEqual(rule, told[5])

    def test_rank_rules(self):
        for size in range(1, 5):
            rule = rank_rule(size)
            self.assertEqual((rule.size, rule.rounds, rule.greatest), (size, 1, size * (size + 1) // 2))
            for many, word in slow_words(size, 1):
                names = rule.names_in(many, word)
                for thread in range(many):
                    heard = SNAPS[many][word[0]].hears(thread)
                    self.assertEqual(names[thread], len(heard) * (len(heard) - 1) // 2 + heard.index(thread) + 1)
            self.assertTrue(is_unlike(rule))
        self.checks_arguments(rank_rule, [2], [NO_SIZES])


class NamesTest(Case):
    def test_clashes(self):
        seen = set()
        for rule in some_rules():
            names = slow_names(rule)
            found = [
                (many, word, pair) for (many, word), told in names.items()
                for pair in combinations(range(many), 2) if told[pair[0]] == told[pair[1]]]
            seen.add(bool(found))
            self.assertIs(is_unlike(rule), not found)
            self.assertTrue(clash(rule) in found if found else clash(rule) is None)
            for many, word in names:
                for pair in combinations(range(many), 2):
                    self.assertIs(is_clash(rule, (many, word, pair)), (many, word, pair) in found)
                    self.assertIs(is_clash(rule, (many, word, pair[::-1])), False)
        self.assertEqual(seen, {True, False})

    def test_values_near_clashes(self):
        rule = rank_rule(3).mapped({1: 1, 2: 2, 3: 2, 4: 4, 5: 5, 6: 6})
        told = clash(rule)
        for value in near_values(told):
            right = type(value) is tuple and len(value) == 3 and is_int(value[0]) and 1 <= value[0] <= 3
            right = right and looks_like_word(SNAPS[value[0]], value[1]) and len(value[1]) == 1
            right = right and is_int_tuple(value[2]) and value[2] in combinations(range(value[0]), 2)
            if right:
                names = rule.names_in(value[0], value[1])
                right = names[value[2][0]] == names[value[2][1]]
            self.assertIs(is_clash(rule, value), right)
        self.judges(is_clash, [rule])
        no_rules = (InvalidRule, wrong_where(lambda value: False, rule.names))
        for call, good in ((is_unlike, [rule]), (clash, [rule]), (is_clash, [rule, None]), (as_rule, [rule, ((0, 1, 2),)]),
                           (triangle, [rule, ()])):
            self.checks_arguments(call, good, [no_rules, *[None for _ in good[1:]]])

    def test_as_rule(self):
        for rule in some_rules():
            size = rule.size
            rows = [row for row in product(range(5), repeat=size) if len(set(row)) == size]
            rows = tuple(rows[::max(1, len(rows) // 8)])
            if len(plain_words(SNAPS[size], rule.rounds)) * len(rows) > 4000:
                rows = rows[:3]
            told = as_rule(rule, rows)
            outputs, given = {}, rule.names
            for (row, word), views in slow_run_views(SNAPS[size], rule.rounds, rows).items():
                for thread, view in enumerate(views):
                    outputs[view] = given[slow_pattern(size, word, thread, row)]
            self.assertEqual(told, Rule(SNAPS[size], rule.rounds, outputs))

    def test_wrong_rows(self):
        rule = rank_rule(2)
        wrong = wrong_where(
            lambda value: type(value) is tuple and value and all(
                is_int_tuple(row) and len(row) == len(set(row)) == 2 and all(0 <= entry <= 9 for entry in row) for row in value),
            ((0, 0),), ((0, 1), (0, 0)), ((0, 1), (0, 1)), ((1, 0), (0, 1)), ((0, 10),), ((0, True),), ((0, 1, 2),), [(0, 1)],
            tuple(sorted(permutations(range(9), 2)))[:65])
        self.checks_arguments(as_rule, [rule, ((0, 1),)], [
            (InvalidRule, wrong_where(lambda value: False)), (InvalidOperation, wrong)])
        rows = tuple(sorted(permutations(range(9), 2)))
        self.assertEqual(len(as_rule(rule, rows[:64]).pool), 3)
        great = OrderRule(4, 1, {pattern: 1 for pattern in patterns(4, 1)})
        rows = tuple(sorted(permutations(range(5), 4)))
        self.fails_keeping(TooMany, 4000, as_rule, great, rows[:54])
        self.assertTrue(as_rule(great, rows[:53]))

    def test_names_tasks(self):
        for size in range(1, 5):
            for names, inputs in product(range(size, 9), repeat=2):
                rows = list(permutations(range(inputs), size))
                rights = list(permutations(range(1, names + 1), size))
                if len(rows) > 64:
                    self.fails_keeping(TooMany, 64, names_task, size, names, inputs)
                elif len(rights) > 256:
                    self.fails_keeping(TooMany, 256, names_task, size, names, inputs)
                else:
                    self.assertEqual(names_task(size, names, inputs), Task({row: tuple(rights) for row in rows}))
            self.checks_arguments(names_task, [size, 8 if size < 3 else size, size], [
                NO_SIZES, (InvalidNumber, not_numbers(size, 8)), (InvalidNumber, not_numbers(size, 8))])

    def test_unlike_rules_do_names_tasks(self):
        drawn = Random(103)
        for rule in [rank_rule(2), rank_rule(3), rank_rule(1), *[drawn_rule(drawn, 2, 1, 3) for _ in range(20)]]:
            for inputs in range(rule.size, 5):
                if rule.greatest < rule.size:
                    continue
                task = names_task(rule.size, rule.greatest, inputs)
                self.assertIs(does(as_rule(rule, task.rows), task), is_unlike(rule))
        own = Rule(SNAPS[3], 0, {(t, 0, ((t, entry),)): t + 1 for t in range(3) for entry in range(4)})
        self.assertTrue(does(own, names_task(3, 3, 4)))

    def test_triangles(self):
        for rule in some_rules():
            names = slow_names(rule)
            for group in ((), (1,), (2,), (1, 2), (2, 3, 5), (1, 3, 40, 99), tuple(range(1, 100))):
                rows = triangle(rule, group)
                self.assertEqual([len(row) for row in rows], list(range(1, rule.size + 2)))
                for many in range(1, rule.size + 1):
                    totals = {}
                    for word in plain_words(SNAPS[many], rule.rounds):
                        marked = frozenset(t for t in range(many) if names[many, word][t] in group)
                        totals[marked] = totals.get(marked, 0) + slow_sign(many, word)
                    for k in range(many + 1):
                        for chosen in combinations(range(many), k):
                            self.assertEqual(rows[many][k], totals.get(frozenset(chosen), 0))
                    self.assertEqual(sum(total * comb(many, k) for k, total in enumerate(rows[many])), 1)
                    for k in range(many):
                        self.assertEqual(rows[many - 1][k], rows[many][k] + rows[many][k + 1])

    def test_wrong_groups(self):
        rule = rank_rule(2)
        wrong = wrong_where(
            lambda value: is_int_tuple(value) and all(1 <= name <= 99 for name in value)
            and all(a < b for a, b in zip(value, value[1:])), (0,), (1, 1), (2, 1), (100,), (True,), [1])
        self.checks_arguments(triangle, [rule, ()], [
            (InvalidRule, wrong_where(lambda value: False)), (InvalidOperation, wrong)])

    def test_barred(self):
        for size in range(1, 41):
            for names in range(size, 100):
                told = None
                for g in range(names + 1):
                    factors = [comb(size, k) for k in range(size + 1) if size - names + g <= k <= g]
                    if gcd(*factors) > 1:
                        told = g
                        break
                self.assertEqual(barring_group(size, names), told)
                self.assertIs(is_barred(size, names), told is not None)
        for call in (barring_group, is_barred):
            self.checks_arguments(call, [4, 5], [(InvalidNumber, not_numbers(1, 40)), (InvalidNumber, not_numbers(4, 99))])

    def test_powers_of_primes(self):
        primes = [p for p in range(2, 41) if all(p % q for q in range(2, p))]
        powers = {p ** k for p in primes for k in range(1, 6)}
        for size in range(2, 41):
            self.assertIs(is_barred(size, 2 * size - 2), size in powers)
            self.assertFalse(is_barred(size, 2 * size - 1))

    def test_barred_rules_have_a_clash(self):
        drawn = Random(107)
        for size, rounds in ((2, 1), (2, 2), (3, 1), (3, 2), (4, 1)):
            for _ in range(30):
                rule = drawn_rule(drawn, size, rounds, 2 * size - 2)
                if rule.greatest >= size and is_barred(size, rule.greatest):
                    self.assertIsNotNone(clash(rule))
