"""Part 5b: rules, with [5.2]."""

from itertools import product
from random import Random

from poolmaps.base.pools import Pool, pair_pool, snap_pool, star_pool
from poolmaps.base.webs import full_web, silent_web
from poolmaps.errors import (
    InvalidNumber, InvalidOperation, InvalidPool, InvalidRow, InvalidRule, InvalidTask, InvalidWord, TooMany,
    UnknownName,
)
from poolmaps.tasks.rules import Rule, does, found_fault, is_fault
from poolmaps.tasks.tasks import Task, agreement_task, choice_task, near_task
from tests.support import (
    WRONG, Case, is_int, marked_pools, near_values, not_numbers, not_pools, not_words, plain_words, slow_known,
    slow_run_views, slow_sights, wrong_where,
)
from tests.test_middles import not_rows
from tests.test_tasks import not_tasks

PATH, PAIR = pair_pool("RLB"), pair_pool("RL")
AGREE = agreement_task(2)
NO_POOLS = (InvalidPool, not_pools())
NO_ROUNDS = (InvalidNumber, not_numbers(0, 6))
WIDE = Pool(tuple(silent_web(2).with_mark(0, mark) for mark in range(55)))


def not_rules():
    return wrong_where(lambda value: type(value) is Rule)


def first_heard(pool, rounds, task):
    """The rule in which each thread puts out the input of the least thread that it knows."""
    views = {view for told in slow_run_views(pool, rounds, task.rows).values() for view in told}
    return Rule(pool, rounds, {view: view[2][0][1] for view in views})


def drawn_rule(drawn, pool, rounds, rows, most=2, share=0.8):
    views = sorted({view for told in slow_run_views(pool, rounds, rows).values() for view in told})
    return Rule(pool, rounds, {view: drawn.randrange(most) for view in views if drawn.random() < share})


def drawn_task(drawn, size, most=2):
    rows = drawn.sample(list(product(range(2), repeat=size)), drawn.randrange(1, 4) if size > 1 else 1)
    outputs = list(product(range(most), repeat=size))
    return Task({row: tuple(sorted(drawn.sample(outputs, drawn.randrange(1, len(outputs) + 1)))) for row in rows})


def slow_faults(rule, task):
    return [
        run for run, views in slow_run_views(rule.pool, rule.rounds, task.rows).items()
        if not all(view in rule.table for view in views)
        or tuple(rule.table[view] for view in views) not in task[run[0]]
    ]


def is_slow_outputs(pool, rounds, value):
    """Whether a dict is one from views to outputs; its keys are compared by what they look like."""
    if type(value) is not dict or not all(is_int(output) and 0 <= output <= 99 for output in value.values()):
        return False
    known_with = {}
    for word, numbers in slow_run_views(pool, rounds, [(0,) * pool.size]).items():
        for thread, number, inputs in numbers:
            known_with[thread, number] = [other for other, _ in inputs]
    for view in value:
        if type(view) is not tuple or len(view) != 3 or not is_int(view[0]) or not is_int(view[1]):
            return False
        if view[:2] not in known_with or type(view[2]) is not tuple:
            return False
        if not all(type(pair) is tuple and len(pair) == 2 and is_int(pair[0]) for pair in view[2]):
            return False
        if not all(is_int(entry) and 0 <= entry <= 9 for _, entry in view[2]):
            return False
        if [other for other, _ in view[2]] != known_with[view[:2]]:
            return False
    return True


def pools():
    return [PATH, PAIR, pair_pool("BN"), snap_pool(1), star_pool(3), *marked_pools()[:5]]


class RuleTest(Case):
    def test_properties(self):
        drawn = Random(13)
        for pool in pools():
            for rounds in (0, 1, 2):
                rule = drawn_rule(drawn, pool, rounds, [(3,) * pool.size, (9,) + (0,) * (pool.size - 1)], 100)
                table = rule.table
                self.assertEqual((rule.pool, rule.rounds, rule.views), (pool, rounds, tuple(sorted(table))))
                self.assertEqual((list(table), list(rule), len(rule)), (list(rule.views), list(rule.views), len(table)))
                self.assertEqual(str(rule), f"rule of {len(table)} views, {rounds} rounds")
                for view, output in table.items():
                    self.assertEqual(rule[view], output)
                    self.assertIs(view in rule, True)
                self.assertEqual(Rule(pool, rounds, dict(reversed(table.items()))), rule)
        self.assertEqual((len(Rule(PATH, 6, {})), str(Rule(PATH, 0, {}))), (0, "rule of 0 views, 0 rounds"))

    def test_wrong_outputs(self):
        wrong = wrong_where(lambda value: is_slow_outputs(PATH, 1, value))
        self.checks_arguments(Rule, [PATH, 1, {}], [NO_POOLS, NO_ROUNDS, (InvalidRule, wrong)])
        for pool, rounds in ((PATH, 0), (PATH, 1), (star_pool(3), 1), (snap_pool(1), 2)):
            right = first_heard(pool, rounds, agreement_task(pool.size)).table
            few = dict(list(right.items())[::3])
            for value in [*near_values(few), {**few, (0, 99, ((0, 0),)): 1}, {(0, -1, ((0, 0),)): 1}, {(0, 0, ((0, 10),)): 1},
                          {(0, 0, ((0, 9),)): 99}, {(0, 0, ((0, 9),)): 100}, {(0, 0, ()): 1}, {(0, 0, ((1, 0),)): 1}]:
                if is_slow_outputs(pool, rounds, value):
                    self.assertEqual(Rule(pool, rounds, value).table, value)
                else:
                    self.fails(InvalidRule, Rule, pool, rounds, value)
        self.fails_keeping(TooMany, 3000, Rule, WIDE, 2, None)
        self.assertEqual(len(Rule(WIDE, 1, {(0, 54, ((0, 9),)): 99})), 1)

    def test_wrong_views(self):
        rule = first_heard(PATH, 1, AGREE).with_output((0, 0, ((0, 5),)), 7)
        for value in [*WRONG, *[other for view in rule.views[:4] for other in near_values(view)], (0, 0, ((0, 6),))]:
            if repr(value) in [repr(view) for view in rule.views]:
                continue
            self.assertIs(value in rule, False)
            self.assertIs(self.fails(UnknownName, lambda: rule[value]).wanted, value)

    def test_outcome(self):
        drawn = Random(17)
        for pool in pools():
            for rounds in (0, 1, 2):
                rows = [(0,) * pool.size, (4,) * pool.size]
                rule = drawn_rule(drawn, pool, rounds, rows, 9, 0.9)
                for (row, word), views in slow_run_views(pool, rounds, [*rows, (5,) * pool.size]).items():
                    lacking = [view for view in views if view not in rule.table]
                    if lacking:
                        self.assertEqual(self.fails(UnknownName, rule.outcome, row, word).wanted, lacking[0])
                    else:
                        self.assertEqual(rule.outcome(row, word), tuple(rule.table[view] for view in views))
        rule = first_heard(PATH, 1, AGREE)
        self.checks_arguments(rule.outcome, [(0, 1), (0,)], [
            (InvalidRow, not_rows(2)), (InvalidWord, not_words(PATH, 1))])
        self.fails(InvalidWord, rule.outcome, (7, 7), (0, 0))

    def test_lengthened(self):
        drawn = Random(19)
        for pool in (PATH, PAIR, pair_pool("BN"), snap_pool(1), star_pool(3)):
            for rounds, more in ((0, 0), (0, 1), (1, 1), (0, 2), (2, 0)):
                task = drawn_task(drawn, pool.size)
                rule = drawn_rule(drawn, pool, rounds, list(product(range(3), repeat=pool.size)), 9, 0.7)
                early, outputs = slow_run_views(pool, rounds, task.rows), {}
                for (row, word), views in slow_run_views(pool, rounds + more, task.rows).items():
                    for view, old in zip(views, early[row, word[:rounds]]):
                        if old in rule.table:
                            outputs[view] = rule.table[old]
                self.assertEqual(rule.lengthened(more, task), Rule(pool, rounds + more, outputs))
        rule = first_heard(PAIR, 2, AGREE)
        self.checks_arguments(rule.lengthened, [1, AGREE], [
            (InvalidNumber, not_numbers(0, 4)), (InvalidTask, not_tasks())])
        self.fails(InvalidOperation, rule.lengthened, 4, agreement_task(3))
        self.fails_keeping(InvalidNumber, 5, rule.lengthened, 5, agreement_task(3))
        self.fails_keeping(TooMany, 3000, Rule(WIDE, 1, {}).lengthened, 1, AGREE)
        self.fails(InvalidOperation, Rule(WIDE, 1, {}).lengthened, 1, agreement_task(1))
        self.fails_keeping(TooMany, 4000, Rule(Pool(WIDE.webs[:32]), 1, {}).lengthened, 1, AGREE)
        self.assertEqual(len(Rule(PAIR, 0, {}).lengthened(6, AGREE)), 0)

    def test_for_pool(self):
        drawn = Random(23)
        for pool in (PATH, snap_pool(3), marked_pools()[1], marked_pools()[3]):
            for rounds in (0, 1, 2):
                rule = drawn_rule(drawn, pool, rounds, [(1,) * pool.size, (0,) * pool.size], 9, 0.7)
                for many in (1, 2, 3):
                    other = pool.picked(tuple(drawn.sample(range(len(pool.webs)), many)))
                    there = {}
                    mine, theirs = slow_sights(pool, rounds), slow_sights(other, rounds)
                    numbers = slow_run_views(pool, rounds, [(0,) * pool.size])
                    sight_of = {
                        (t, numbers[(0,) * pool.size, word][t][1]): mine[word][t] for word in mine for t in range(pool.size)}
                    places = slow_run_views(other, rounds, [(0,) * pool.size])
                    place_of = {
                        (t, theirs[word][t]): places[(0,) * pool.size, word][t][1] for word in theirs for t in range(pool.size)}
                    for (t, number, inputs), output in rule.table.items():
                        if (t, sight_of[t, number]) in place_of:
                            there[t, place_of[t, sight_of[t, number]], inputs] = output
                    self.assertEqual(rule.for_pool(other), Rule(other, rounds, there))
        rule = first_heard(PAIR, 1, AGREE)
        self.checks_arguments(rule.for_pool, [PAIR], [NO_POOLS])
        for pool in (PATH, pair_pool("B"), snap_pool(1), star_pool(3), marked_pools()[0], WIDE):
            self.fails(InvalidOperation, rule.for_pool, pool)

    def test_replaced(self):
        rule = first_heard(PATH, 1, agreement_task(2, 3))
        outputs = {2: 5, 1: 99, 0: 5}
        self.assertEqual(rule.replaced(outputs).table, {view: outputs[told] for view, told in rule.table.items()})
        self.assertEqual(Rule(PATH, 1, {}).replaced({}), Rule(PATH, 1, {}))
        self.fails(InvalidOperation, Rule(PATH, 1, {}).replaced, {0: 1})
        for value in [*WRONG, {0: 1, 1: 2}, {0: 1, 1: 2, 2: 100}, {0: 1, 1: 2, 2: 3, 3: 4}, {0: 1, True: 2, 2: 3}]:
            self.fails(InvalidOperation, rule.replaced, value)

    def test_with_output(self):
        rule = first_heard(PATH, 1, AGREE)
        view = rule.views[3]
        self.assertEqual(rule.with_output(view, 9).table, {**rule.table, view: 9})
        more = (0, 0, ((0, 8),))
        self.assertEqual(rule.with_output(more, 0).table, {**rule.table, more: 0})
        for value in [*WRONG, *near_values(view), [view]]:
            try:
                right = is_slow_outputs(PATH, 1, {value: 0})
            except TypeError:
                right = False
            if not right:
                self.fails(InvalidRule, rule.with_output, value, 0)
        self.checks_arguments(lambda output: rule.with_output(view, output), [0], [
            (InvalidRule, wrong_where(lambda value: is_int(value) and 0 <= value <= 99, 100))])
        self.assertEqual(rule, first_heard(PATH, 1, AGREE))

    def test_equality_and_sharing(self):
        rules = [first_heard(PATH, 1, AGREE), first_heard(PATH, 0, AGREE), first_heard(pair_pool("LRB"), 1, AGREE),
                 Rule(PATH, 1, {}), Rule(PATH, 2, {}), Rule(PAIR, 1, {}), first_heard(PATH, 1, AGREE).with_output((0, 0, ((0, 0),)), 5)]
        for at, one in enumerate(rules):
            for place, other in enumerate(rules):
                self.assertIs(one == Rule(other.pool, other.rounds, other.table), at == place)
                self.assertIs(one != Rule(other.pool, other.rounds, other.table), at != place)
        for value in [*WRONG, rules[0].table]:
            self.assertIs(rules[0] == value, False)
        table = rules[0].table
        rule = Rule(PATH, 1, table)
        table.clear()
        rule.table.clear()
        self.assertEqual(rule, rules[0])


class DoingTest(Case):
    def checks_doing(self, rule, task):
        faults = slow_faults(rule, task)
        self.assertIs(does(rule, task), not faults)
        told = found_fault(rule, task)
        self.assertTrue(told in faults if faults else told is None)
        for run in slow_run_views(rule.pool, rule.rounds, task.rows):
            self.assertIs(is_fault(rule, task, run), run in faults)
        return not faults

    def test_by_all_runs(self):
        drawn = Random(29)
        done = 0
        for pool in (PATH, PAIR, pair_pool("B"), pair_pool("BN"), snap_pool(1), star_pool(3), marked_pools()[1]):
            for rounds in (0, 1, 2):
                for _ in range(12):
                    task = drawn_task(drawn, pool.size)
                    share = drawn.choice((0.97, 1))
                    done += self.checks_doing(drawn_rule(drawn, pool, rounds, task.rows, 2, share), task)
                self.checks_doing(first_heard(pool, rounds, agreement_task(pool.size)), agreement_task(pool.size))
        self.assertGreater(done, 20)

    def test_other_values_are_no_faults(self):
        rule, task = first_heard(PATH, 1, AGREE), AGREE.without_row((1, 1))
        run = found_fault(rule, task)
        self.assertIn(run, slow_faults(rule, task))
        right = {repr(told) for told in slow_faults(rule, task)}
        for value in [*near_values(run), ((1, 1), (0,)), ((0, 1), ()), ((0, 1), (0, 1)), ((0, 1), (3,)), ((0, 1, 0), (0,))]:
            self.assertIs(is_fault(rule, task, value), repr(value) in right)
        self.judges(is_fault, [rule, task])
        self.judges(is_fault, [Rule(PATH, 1, {}), task])

    def test_easier_replaced_lengthened_and_fewer_webs(self):
        task = agreement_task(2, 3)
        rule = Rule(PAIR, 1, {view: view[2][(view[1] + view[0]) % len(view[2])][1] for view in first_heard(PAIR, 1, task)})
        rules = [rule, first_heard(pair_pool("RB"), 1, task), first_heard(pair_pool("RB"), 2, task)]
        for each in rules[1:]:
            self.assertTrue(does(each, task))
            outputs = {0: 7, 1: 7, 2: 3}
            self.assertTrue(does(each.replaced(outputs), task.replaced(outputs)))
            self.assertTrue(does(each, task.without_row((0, 1))))
            self.assertTrue(does(each, AGREE))
            for more in (0, 1, 2):
                self.assertTrue(does(each.lengthened(more, task), task))
            for index in (0, 1):
                less = each.for_pool(each.pool.picked((index,)))
                self.assertTrue(does(less, task))
        self.assertIs(does(rule, task), not slow_faults(rule, task))

    def test_wrong_arguments(self):
        rule = first_heard(PAIR, 1, AGREE)
        for call, more in ((does, []), (found_fault, []), (is_fault, [None])):
            self.checks_arguments(call, [rule, AGREE, *more], [
                (InvalidRule, not_rules()), (InvalidTask, not_tasks()), *[None for _ in more]])
            self.fails(InvalidOperation, call, rule, agreement_task(3), *more)
            self.fails(InvalidOperation, call, Rule(WIDE, 1, {}), agreement_task(3), *more)
            wide = Rule(Pool(tuple(full_web(2).with_mark(0, mark) for mark in range(65))), 1, {})
            great = Task({row: ((0, 0),) for row in list(product(range(8), repeat=2))[:62]})
            self.fails_keeping(TooMany, 4000, call, wide, great, *more)
            call(wide, great.without_row((0, 0)), *more)

    def test_words_are_all_gone_through(self):
        for word in plain_words(PATH, 2):
            rule = first_heard(PATH, 2, near_task(2, 1))
            for thread in (0, 1):
                view = slow_run_views(PATH, 2, [(0, 0)])[(0, 0), word][thread]
                broken = rule.with_output(view, 1)
                self.assertIs(does(broken, near_task(2, 1).without_row((0, 1)).without_row((1, 0))), False)
        self.assertEqual(slow_known(PATH, ()), ((0,), (1,)))
        self.assertTrue(does(Rule(snap_pool(3), 0, {(t, 0, ((t, t),)): 0 for t in range(3)}), choice_task(3, 1)))
