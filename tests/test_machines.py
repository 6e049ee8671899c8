"""Machines round by round and letter by letter; machines of rules and rules of machines run by run."""

from itertools import product
from random import Random

from poolmaps.base.pools import Pool, chain_pool, pair_pool, snap_pool, star_pool
from poolmaps.base.webs import Web, full_web, silent_web
from poolmaps.errors import (
    InvalidMachine, InvalidNumber, InvalidOperation, InvalidPool, InvalidRow, InvalidRule, InvalidWeb, InvalidWord,
    TooMany,
)
from poolmaps.known.sights import all_views
from poolmaps.machines.machines import MAX_REACHED, MAX_STATES, Machine, machine_of, rule_of
from poolmaps.tasks.rules import Rule
from poolmaps.tasks.search import made_rule
from poolmaps.tasks.tasks import agreement_task, near_task
from tests.engines import (
    FOLLOW, MOVES, STARTS, drawn_machine, letters_by_hand, round_by_hand, shown_by_hand, start_by_hand, trail_by_hand,
)
from tests.support import (
    SNAPS, WRONG, Case, is_int, is_int_tuple, marked_pools, near_values, not_numbers, not_pools, not_webs, not_words,
    orders, pair_pools, plain_words, slow_run_views, small_pools, triple_pools, wrong_where,
)

LETTER = (1, 0, 0, ((0, 2),))


def looks_like_letter(value, size, states):
    if type(value) is not tuple or len(value) != 4 or type(value[3]) is not tuple or not is_int_tuple(value[:3]):
        return False
    thread, state, mark, heard = value
    if not all(is_int_tuple(pair) and len(pair) == 2 for pair in heard):
        return False
    others = [pair[0] for pair in heard]
    return (0 <= thread < size and 0 <= state < states and 0 <= mark <= 9999 and others == sorted(set(others))
            and all(0 <= other < size and other != thread and 0 <= told < states for other, told in heard))


def are_rows(value):
    """Whether the value is an ascending tuple of rows of two threads with inputs 0 and 1."""
    if type(value) is not tuple or not value or not all(is_int_tuple(row) and len(row) == 2 for row in value):
        return False
    return list(value) == sorted(set(value)) and all(set(row) <= {0, 1} for row in value)


def is_right_machine(size, states, starts, moves, decisions):
    """The words of the document about the arguments of a machine."""
    if not is_int(size) or not 1 <= size <= 5 or not is_int(states) or not 1 <= states <= 3000:
        return False
    if any(type(told) is not dict for told in (starts, moves, decisions)):
        return False
    if not all(is_int(state) and 0 <= state < states for told in (starts, moves) for state in told.values()):
        return False
    if not all(is_int_tuple(key) and len(key) == 2 and 0 <= key[0] < size for key in [*starts, *decisions]):
        return False
    inputs = {entry for _, entry in starts}
    if not inputs or not all(0 <= entry <= 9 for entry in inputs):
        return False
    if set(starts) != set(product(range(size), inputs)):
        return False
    if not all(0 <= key[1] < states for key in decisions):
        return False
    if not all(is_int(output) and 0 <= output <= 99 for output in decisions.values()):
        return False
    return all(looks_like_letter(letter, size, states) for letter in moves)


def drawn_machines(number, seed, pools=None):
    drawn = Random(seed)
    pools = pools or [*pair_pools(), *marked_pools()[:4], SNAPS[3], star_pool(3), chain_pool(4)]
    return [(pool, drawn_machine(drawn, pool, states=drawn.randrange(1, 5))) for pool in
            (drawn.choice(pools) for _ in range(number))]


class MachinesTest(Case):
    def test_constants(self):
        self.assertEqual((MAX_STATES, MAX_REACHED), (3000, 20000))

    def test_arguments(self):
        good = [2, 4, STARTS, {LETTER: 2, (0, 3, 7, ()): 1}, {(0, 2): 0, (1, 3): 99}]
        self.assertEqual(len(Machine(*good)), 2)
        for place, value in enumerate(good):
            for other in [*near_values(value), *WRONG]:
                told = [*good[:place], other, *good[place + 1:]]
                if is_right_machine(*told):
                    self.assertEqual(vars(Machine(*told))["_size"], told[0])
                else:
                    self.fails(InvalidMachine, Machine, *told)
        for starts in ({}, {(0, 0): 0}, {(0, 0): 0, (1, 1): 0}, {(0, 0): 0, (1, 0): 0, (0, 1): 0},
                       {(0, 10): 0, (1, 10): 0}, {(0, 0): 4, (1, 0): 0}, {(False, 0): 0, (1, 0): 0}):
            self.fails(InvalidMachine, Machine, 2, 4, starts, {}, {})
        for letter in ((2, 0, 0, ()), (0, 4, 0, ()), (0, 0, 10000, ()), (0, 0, 0, ((0, 1),)), (0, 0, 0, ((2, 1),)),
                       (0, 0, 0, ((1, 4),)), (0, 0, 0, ((1, 0), (1, 1))), (0, 0, 0), (0, 0, 0, None),
                       (0, 0, False, ()), (0, 0, 0, ((1, True),))):
            self.fails(InvalidMachine, Machine, 2, 4, STARTS, {letter: 0}, {})
            self.fails(InvalidMachine, FOLLOW.with_move, letter, 0)
        self.fails(InvalidMachine, FOLLOW.with_move, (0, 0, 0, [(1, 0)]), 0)
        self.fails(InvalidMachine, Machine, 3, 4, {(t, 0): 0 for t in range(3)}, {(0, 0, 0, ((2, 0), (1, 0))): 0}, {})
        self.assertEqual(Machine(1, 3000, {(0, 9): 2999}, {}, {}).states, 3000)

    def test_properties_and_rounds(self):
        for pool, machine in drawn_machines(60, 51):
            inputs = machine.inputs
            self.assertEqual(inputs, tuple(sorted({entry for _, entry in machine.starts})))
            again = Machine(machine.size, machine.states, machine.starts, machine.moves, machine.decisions)
            self.assertTrue(again == machine)
            for told in (machine.starts, machine.moves, machine.decisions):
                self.assertEqual(list(told), sorted(told))
                told.clear()
            self.assertTrue(again == machine)
            text = f"machine of {machine.size} threads, {machine.states} states, {len(machine.moves)} moves"
            self.assertEqual((str(machine), len(machine)), (text, len(machine.moves)))
            for row in list(product(inputs, repeat=pool.size))[:8]:
                self.assertEqual(machine.beginning(row), start_by_hand(machine, row))
                for word in plain_words(pool, 2)[:9]:
                    trail = trail_by_hand(machine, pool, row, word)
                    self.assertEqual(machine(row, pool, word), trail[-1])
            for configuration in list(product(range(machine.states), repeat=pool.size))[:30]:
                self.assertEqual(machine.shown_at(configuration), shown_by_hand(machine, configuration))
                for web in pool:
                    self.assertEqual(machine.letters(configuration, web), letters_by_hand(configuration, web))
                    self.assertEqual(machine.round_of(configuration, web), round_by_hand(machine, configuration, web))
                    for letter in machine.letters(configuration, web):
                        self.assertIs(letter in machine, letter in machine.moves)

    def test_errors(self):
        row = wrong_where(lambda value: is_int_tuple(value) and len(value) == 2 and set(value) <= {0, 1}, (0, 2), (0, True))
        states = wrong_where(
            lambda value: is_int_tuple(value) and len(value) == 2 and all(0 <= part < 4 for part in value), (0, 4),
            (0, 1, 2), (0, True), [0, 1])
        pool = pair_pool("RLB")
        self.checks_arguments(FOLLOW.beginning, ((0, 1),), ((InvalidRow, row),))
        self.checks_arguments(FOLLOW.shown_at, ((0, 1),), ((InvalidOperation, states),))
        for call in (FOLLOW.round_of, FOLLOW.letters):
            self.checks_arguments(call, ((0, 1), pool[0]), ((InvalidOperation, states), (InvalidWeb, not_webs(2))))
        self.checks_arguments(FOLLOW, ((0, 1), pool, (0,)), (
            (InvalidRow, row), (InvalidPool, not_pools()), (InvalidWord, not_words(pool))))
        self.fails(InvalidOperation, FOLLOW, (0, 1), snap_pool(3), (0,))
        self.fails(InvalidWord, FOLLOW, (0, 1), snap_pool(1), (1,))
        for value in [*WRONG, *near_values(LETTER)]:
            self.assertIs(value in FOLLOW, looks_like_letter(value, 2, 4) and value in MOVES)
        for value in WRONG:
            self.assertIs(FOLLOW == value, False)
        self.fails(TypeError, iter, FOLLOW)

    def test_changed_machines(self):
        letter = (0, 2, 0, ())
        more = FOLLOW.with_move(letter, 3)
        self.assertEqual((more.moves, more.starts, more.decisions), ({**MOVES, letter: 3}, STARTS, FOLLOW.decisions))
        self.assertEqual(FOLLOW.with_move(LETTER, 1).moves, {**MOVES, LETTER: 1})
        self.assertTrue(more.without_move(letter) == FOLLOW and more != FOLLOW)
        self.assertEqual(FOLLOW.with_decision(1, 0, 9).decisions, {**FOLLOW.decisions, (1, 0): 9})
        self.assertEqual(FOLLOW.with_decision(0, 2, 9).decisions, {**FOLLOW.decisions, (0, 2): 9})
        self.assertEqual(FOLLOW.without_decision(0, 2).with_decision(0, 2, 0), FOLLOW)
        for state in not_numbers(0, 3):
            self.fails(InvalidMachine, FOLLOW.with_move, LETTER, state)
            self.fails(InvalidMachine, FOLLOW.with_decision, 0, state, 1)
            self.fails(InvalidMachine, FOLLOW.without_decision, 0, state)
        for thread in not_numbers(0, 1):
            self.fails(InvalidMachine, FOLLOW.with_decision, thread, 0, 1)
            self.fails(InvalidMachine, FOLLOW.without_decision, thread, 2)
        for output in not_numbers(0, 99):
            self.fails(InvalidMachine, FOLLOW.with_decision, 0, 0, output)
        for value in [*WRONG, *near_values(LETTER)]:
            if not looks_like_letter(value, 2, 4):
                self.fails(InvalidMachine, FOLLOW.with_move, value, 0)
            if value is None or not (looks_like_letter(value, 2, 4) and value in MOVES):
                self.fails(InvalidMachine, FOLLOW.without_move, value)
        self.fails(InvalidMachine, FOLLOW.without_decision, 1, 0)

    def test_renumbered(self):
        for pool, machine in drawn_machines(25, 57):
            for numbers in orders(pool.size)[:8]:
                other = machine.renumbered(numbers)
                self.assertTrue(other.renumbered(tuple(numbers.index(t) for t in range(pool.size))) == machine)
                for row in list(product(machine.inputs, repeat=pool.size))[:4]:
                    moved = [0] * pool.size
                    for thread, number in enumerate(numbers):
                        moved[number] = row[thread]
                    for web in pool:
                        one = round_by_hand(machine, start_by_hand(machine, row), web)
                        two = round_by_hand(other, start_by_hand(other, moved), web.renumbered(numbers))
                        self.assertEqual([two[number] for number in numbers], list(one))
                        self.assertEqual([shown_by_hand(other, two)[number] for number in numbers],
                                         list(shown_by_hand(machine, one)))
        for value in wrong_where(lambda each: is_int_tuple(each) and each in orders(2), (0, True), (0, 1, 1)):
            self.fails(InvalidOperation, FOLLOW.renumbered, value)

    def test_equality(self):
        told = [FOLLOW, FOLLOW.with_move(LETTER, 3), FOLLOW.with_decision(0, 0, 0), FOLLOW.without_decision(0, 2),
                Machine(2, 5, STARTS, MOVES, FOLLOW.decisions),
                Machine(2, 4, {**STARTS, (0, 0): 0}, MOVES, FOLLOW.decisions), Machine(2, 4, STARTS, MOVES, {}),
                Machine(2, 4, dict(reversed(STARTS.items())), dict(reversed(MOVES.items())), FOLLOW.decisions)]
        for one, other in product(told, told):
            same = all(vars(one)[name] == vars(other)[name] for name in vars(one))
            self.assertIs(one == other, same)
            self.assertIs(one != other, not same)
        self.assertTrue(told[0] == told[-1])


class RulesTest(Case):
    def checks(self, rule, rows):
        """The machine of a rule, run by run, for a rule with just the views of all runs from some rows."""
        machine, pool, rounds = machine_of(rule), rule.pool, rule.rounds
        self.assertEqual(set(machine.inputs), {entry for view in rule.views for _, entry in view[2]})
        self.assertEqual(rule_of(machine, pool, rounds, rows), rule)
        for row, word in product(rows, plain_words(pool, rounds)[:40]):
            trail = trail_by_hand(machine, pool, row, word)
            for configuration in trail[:-1]:
                self.assertEqual(shown_by_hand(machine, configuration), (None,) * pool.size)
            self.assertEqual(shown_by_hand(machine, trail[-1]), rule.outcome(row, word))
            for web in pool:
                self.assertEqual(round_by_hand(machine, trail[-1], web), trail[-1])
        return machine

    def test_there_and_back(self):
        drawn, agree = Random(61), agreement_task(2)
        for pool, rounds, many in [*product(pair_pools(), (0, 1, 2, 3), (2,)), *product(marked_pools()[:4], (1, 2), (2,)),
                                   (SNAPS[3], 1, 2), (star_pool(3), 2, 2), (chain_pool(4), 1, 3), (SNAPS[2], 2, 4)]:
            if len(pool) ** rounds > 300:
                continue
            rows = sorted(drawn.sample(list(product(range(many), repeat=pool.size)), drawn.randrange(1, many + 1)))
            views = all_views(pool, rounds, tuple(rows))
            self.checks(Rule(pool, rounds, {view: drawn.randrange(100) for view in views}), tuple(rows))
        self.checks(made_rule(pair_pool("RL"), agree, 1), agree.rows)
        self.checks(made_rule(SNAPS[2], near_task(2, 9), 2), near_task(2, 9).rows)
        rows = tuple(sorted(drawn.sample(list(product(range(10), repeat=2)), 20)))
        self.checks(Rule(SNAPS[2], 1, {view: 0 for view in all_views(SNAPS[2], 1, rows)}), rows)

    def test_rows_that_are_whole_in_rules_with_other_views(self):
        drawn = Random(67)
        for _ in range(30):
            pool = drawn.choice(small_pools())
            if len(pool) > 4:
                continue
            views = slow_run_views(pool, 2, list(product((0, 1, 5), repeat=pool.size)))
            told = sorted({view for each in views.values() for view in each})
            some = {view: drawn.randrange(9) for view in told if drawn.random() < 0.9}
            machine = machine_of(Rule(pool, 2, some))
            for row in product((0, 1, 5), repeat=pool.size):
                words = plain_words(pool, 2)
                if all(view in some for word in words for view in views[row, word]):
                    for word in words:
                        shown = [shown_by_hand(machine, each) for each in trail_by_hand(machine, pool, row, (*word, 0))]
                        outputs = tuple(some[view] for view in views[row, word])
                        self.assertEqual(shown, [(None,) * pool.size] * 2 + [outputs] * 2)

    def test_rules_of_drawn_machines(self):
        for pool, machine in drawn_machines(40, 71, [*pair_pools(), *marked_pools()[:3], *triple_pools(411)]):
            decided = machine
            for key in product(range(machine.size), range(machine.states)):
                if key not in machine.decisions:
                    decided = decided.with_decision(*key, 50 + key[1])
            rows = tuple(product((0, 1), repeat=pool.size))
            for rounds in (0, 1, 2):
                views = slow_run_views(pool, rounds, rows)
                rule = rule_of(decided, pool, rounds, rows)
                self.assertEqual((rule.pool, rule.rounds), (pool, rounds))
                self.assertEqual(set(rule.views), {view for each in views.values() for view in each})
                lacking = False
                for row, word in views:
                    last = trail_by_hand(machine, pool, row, word)[-1]
                    self.assertEqual(rule.outcome(row, word), shown_by_hand(decided, last))
                    lacking = lacking or None in shown_by_hand(machine, last)
                if lacking:
                    self.fails(InvalidOperation, rule_of, machine, pool, rounds, rows)
                else:
                    self.assertEqual(rule_of(machine, pool, rounds, rows), rule)

    def test_errors(self):
        pool, rows = pair_pool("RLB"), ((0, 1), (1, 1))
        self.checks_arguments(machine_of, (Rule(pool, 0, {(0, 0, ((0, 1),)): 1}),), (
            (InvalidRule, [*wrong_where(lambda value: False), Rule(pool, 1, {})]),))
        always = FOLLOW.with_decision(1, 0, 0).with_decision(1, 1, 0)
        self.checks_arguments(rule_of, (always, pool, 1, rows), (
            (InvalidMachine, wrong_where(lambda value: type(value) is Machine)), (InvalidPool, not_pools()),
            (InvalidNumber, not_numbers(0, 6)),
            (InvalidOperation, wrong_where(are_rows, ((0, 1), (0, 1)), ((1, 1), (0, 1)), ((0, 2),),
                                           ((0, True),), [(0, 1)], ((0, 1, 0),)))))
        self.fails(InvalidOperation, rule_of, always, snap_pool(3), 1, rows)
        self.fails(InvalidOperation, rule_of, always, snap_pool(3), 4, rows)
        wide = Pool(tuple(silent_web(2).with_mark(0, mark) for mark in range(60)))
        self.fails_keeping(TooMany, 3000, rule_of, always, wide, 2, rows)
        self.fails_keeping(TooMany, 3000, rule_of, FOLLOW, wide, 2, rows)
        self.fails(InvalidOperation, rule_of, FOLLOW, pool, 1, rows)
        self.assertEqual(len(rule_of(always, pool, 1, rows)), 7)

    def test_too_many_views(self):
        full = Pool((full_web(3),))
        for inputs in (1, 10):
            rule = Rule(full, 0, {(t, 0, ((t, entry),)): 1 for t in range(3) for entry in range(inputs)})
            self.assertEqual(machine_of(rule).states, inputs)
        whole = {(0, 0, tuple(enumerate(row))): 1 for row in product(range(9), repeat=3)}
        self.assertEqual(machine_of(Rule(full, 4, whole)).states, 9 + 4 * 729)
        self.fails_keeping(TooMany, 3000, machine_of, Rule(full, 5, whole))
        # 10 + 10 * 9 + 100 * 29 views, and ten more.
        webs = [Web(((1,), ()), (mark, 0)) for mark in range(29)] + [Web(((), ()), (mark, 0)) for mark in range(10)]
        outputs = {(1, 0, ((1, entry),)): 0 for entry in range(10)}
        self.assertEqual(machine_of(Rule(Pool(tuple(webs[:-1])), 1, outputs)).states, 3000)
        self.fails_keeping(TooMany, 3000, machine_of, Rule(Pool(tuple(webs)), 1, outputs))
        one = Pool((Web(((),)), Web(((),), (1,))))
        for rounds in range(1, 7):
            told = sum(10 * 2 ** many for many in range(rounds + 1))
            rule = Rule(one, rounds, {(0, 0, ((0, entry),)): entry for entry in range(10)})
            self.assertEqual(machine_of(rule).states, told)
