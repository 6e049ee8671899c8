"""Part 5c: search, with [5.1], [5.3] and [5.4]."""

from itertools import product
from math import prod
from random import Random

from poolmaps.base.pools import Pool, pair_pool, snap_pool, star_pool
from poolmaps.base.webs import full_web, silent_web
from poolmaps.errors import (
    InvalidNumber, InvalidOperation, InvalidPool, InvalidTask, NothingToUndo, Refused, TooMany,
)
from poolmaps.groups.bars import agree_in
from poolmaps.near.limits import near_limit
from poolmaps.tasks.rules import Rule, does
from poolmaps.tasks.search import Chooser, can_do, is_refusal, least_for, made_rule, refusal
from poolmaps.tasks.tasks import Task, agreement_task, choice_task, near_task
from tests.support import (
    WRONG, Case, is_int, is_int_tuple, looks_like_word, marked_pools, near_values, not_numbers, not_pools, pair_pools,
    slow_run_views, triple_pools, wrong_where,
)
from tests.test_tasks import not_tasks

PATH, PAIR = pair_pool("RLB"), pair_pool("RL")
AGREE = agreement_task(2)
NO_POOLS = (InvalidPool, not_pools())
NO_TASKS = (InvalidTask, not_tasks())
NO_ROUNDS = (InvalidNumber, not_numbers(0, 6))
WIDE = Pool(tuple(silent_web(2).with_mark(0, mark) for mark in range(55)))
ODD = Task({(0, 0): ((0, 0), (1, 1)), (0, 1): ((0, 1), (1, 0)), (1, 1): ((0, 0), (1, 1)), (1, 0): ((0, 0), (1, 1))})


def slow_solutions(pool, task, rounds, most=5000):
    """All maps from views to outputs that do the task, or None if there are too many maps."""
    runs = slow_run_views(pool, rounds, task.rows)
    views = sorted({view for told in runs.values() for view in told})
    menus = [sorted({right[view[0]] for rights in task.table.values() for right in rights}) for view in views]
    if prod(len(menu) for menu in menus) > most:
        return None
    found = []
    for outputs in product(*menus):
        rule = dict(zip(views, outputs))
        if all(tuple(rule[view] for view in told) in task[run[0]] for run, told in runs.items()):
            found.append(rule)
    return found


def slow_is_refusal(pool, task, rounds, value):
    """The definition, node by node."""
    if type(value) is not tuple or not 1 <= len(value) <= 5000:
        return False
    runs = slow_run_views(pool, rounds, task.rows)
    views = {repr(view) for told in runs.values() for view in told}
    ways, named = {0: {}}, []
    for number, node in enumerate(value):
        if number not in ways or type(node) is not tuple or len(node) != 3 or type(node[0]) is not str:
            return False
        taken = ways[number]
        if node[0] == "ask":
            _, view, branches = node
            if repr(view) not in views or view in taken or type(branches) is not tuple:
                return False
            if not all(is_int_tuple(branch) and len(branch) == 2 for branch in branches):
                return False
            if tuple(output for output, _ in branches) != task.outputs(view[0]):
                return False
            for output, target in branches:
                if not number < target < len(value):
                    return False
                named.append(target)
                ways[target] = {**taken, view: output}
        elif node[0] == "stop":
            _, row, word = node
            if not is_int_tuple(row) or row not in task.table or not looks_like_word(pool, word) or len(word) != rounds:
                return False
            told = runs[row, word]
            if any(all(taken.get(view, part) == part for view, part in zip(told, right)) for right in task[row]):
                return False
        else:
            return False
    return sorted(named) == list(range(1, len(value)))


def many_rows_task():
    """A task that cannot be done without hearing; questions for thread 0 have 2 branches, those for thread 1 have 3."""
    rows = list(product(range(10), repeat=2))[:60]
    table = {row: tuple((a, b) for a in (0, 1) for b in (0, 1, 2)) for row in rows}
    return Task({**table, (0, 0): ((0, 0),), (0, 1): ((1, 0), (1, 1), (1, 2)), (1, 0): ((0, 1),), (1, 1): ((1, 0),)})


def widened(task, told, many):
    """A refusal with so many nodes, by questions that lead nowhere in the place of stops."""
    nodes, asked, queue = list(told), {}, []
    for number, node in enumerate(nodes):
        before = asked.get(number, ())
        if node[0] == "ask":
            for _, target in node[2]:
                asked[target] = (*before, node[1])
        else:
            queue.append(number)
    twos = {0: 0, 2: 1, 1: 2}[(many - len(nodes)) % 3]
    while len(nodes) < many:
        thread, number = 0 if twos > 0 else 1, queue.pop(0)
        twos -= 1
        before, stop, branches = asked.get(number, ()), nodes[number], []
        views = [(thread, 0, ((thread, entry),)) for entry in range(2, (6, 10)[thread])]
        view = [view for view in views if view not in before][0]
        for output in task.outputs(thread):
            branches.append((output, len(nodes)))
            asked[len(nodes)] = (*before, view)
            queue.append(len(nodes))
            nodes.append(stop)
        nodes[number] = ("ask", view, tuple(branches))
    return tuple(nodes)


def drawn_task(drawn, size, inputs=2, outputs=2, most=4):
    rows = list(product(range(inputs), repeat=size))
    rows = drawn.sample(rows, drawn.randrange(1, min(most, len(rows)) + 1))
    rights = list(product(range(outputs), repeat=size))
    return Task({row: tuple(sorted(drawn.sample(rights, drawn.randrange(1, min(4, len(rights)) + 1)))) for row in rows})


def drawn_cases(seed, many):
    drawn = Random(seed)
    pools = [PATH, PAIR, pair_pool("B"), pair_pool("RB"), pair_pool("BN"), pair_pool("RLBN"), snap_pool(1), star_pool(3),
             *marked_pools()[:6]]
    for _ in range(many):
        pool = drawn.choice(pools)
        task = drawn_task(drawn, pool.size, drawn.choice((2, 2, 3)), drawn.choice((2, 2, 3)))
        yield pool, task, drawn.choice((0, 0, 1))


class SearchTest(Case):
    def checks_no_rule(self, pool, task, rounds):
        self.assertIs(can_do(pool, task, rounds), False)
        self.fails(InvalidOperation, made_rule, pool, task, rounds)
        self.fails(InvalidOperation, Chooser, pool, task, rounds)
        told = refusal(pool, task, rounds)
        self.assertTrue(slow_is_refusal(pool, task, rounds, told))
        self.assertIs(is_refusal(pool, task, rounds, told), True)
        return told

    def checks_rule(self, pool, task, rounds):
        self.assertIs(can_do(pool, task, rounds), True)
        rule = made_rule(pool, task, rounds)
        self.assertEqual((rule.pool, rule.rounds, does(rule, task)), (pool, rounds, True))
        views = {view for told in slow_run_views(pool, rounds, task.rows).values() for view in told}
        self.assertEqual(set(rule), views)
        self.fails(InvalidOperation, refusal, pool, task, rounds)

    def test_against_all_maps(self):
        done = [0, 0]
        for pool, task, rounds in drawn_cases(37, 260):
            solutions = slow_solutions(pool, task, rounds)
            if solutions is not None:
                done[bool(solutions)] += 1
                (self.checks_rule if solutions else self.checks_no_rule)(pool, task, rounds)
        self.assertGreater(min(done), 30)

    def test_agreement_and_near_agreement(self):
        for pool in [*pair_pools(), *triple_pools(601), star_pool(3)]:
            for rounds in (0, 1, 2) if len(pool.webs) < 4 else (0, 1):
                task = agreement_task(pool.size)
                (self.checks_rule if agree_in(pool, rounds) else self.checks_no_rule)(pool, task, rounds)
                limit = near_limit(pool, rounds)
                for most in (1, 2, 3, 4):
                    near = near_task(pool.size, most)
                    if limit is None or most <= limit:
                        self.checks_rule(pool, near, rounds)
                    elif rounds < 2:
                        self.checks_no_rule(pool, near, rounds)

    def test_great_searches(self):
        for pool, task, rounds, told in (
            (PATH, AGREE, 6, False), (PATH, near_task(2, 85), 6, True), (PATH, near_task(2, 81), 4, True),
            (PATH, near_task(2, 82), 4, False), (snap_pool(3), near_task(3, 4), 2, True),
            (snap_pool(3), near_task(3, 5), 2, False), (snap_pool(4), near_task(4, 3), 1, False),
            (snap_pool(4), near_task(4, 2), 1, True), (snap_pool(3), choice_task(3, 1), 2, True),
        ):
            self.assertIs(can_do(pool, task, rounds), told)

    def test_inputs_of_others_in_one_round_of_snaps(self):
        rows = list(product(range(3), repeat=3))
        for many, told in ((1, False), (2, False), (3, True)):
            task = Task({row: tuple(
                right for right in product(sorted(set(row)), repeat=3) if len(set(right)) <= many) for row in rows})
            self.assertIs(can_do(snap_pool(3), task, 1), told)

    def test_inputs_of_others_in_two_rounds_of_snaps(self):
        # A row for each set of threads that can be known: what a thread puts out is an input that it knows.
        faces = [(0, 0, 0), (0, 0, 2), (0, 1, 0), (0, 1, 2), (1, 1, 1), (1, 1, 2), (2, 2, 2)]
        for rows in (faces, list(product(range(3), repeat=3))[:23]):
            for many, told in ((2, False), (3, True)):
                task = Task({row: tuple(
                    right for right in product(sorted(set(row)), repeat=3) if len(set(right)) <= many) for row in rows})
                self.assertIs(can_do(snap_pool(3), task, 2), told)

    def test_views_apart(self):
        rows = {(entry, entry): ((0, 0), (1, 1), (2, 3)) for entry in range(8)}
        broken = {(8, 8): ((0, 0),), (8, 9): ((0, 1),), (9, 8): ((0, 0), (1, 0)), (9, 9): ((1, 0),)}
        self.assertTrue(can_do(pair_pool("N"), Task(rows), 2))
        self.assertFalse(can_do(pair_pool("N"), Task({**rows, **broken}), 2))

    def test_told_refusals(self):
        for pool, task, rounds in ((PATH, AGREE, 0), (PATH, AGREE, 1), (PATH, AGREE, 2), (PATH, agreement_task(2, 3), 1),
                                   (snap_pool(3), agreement_task(3), 1), (snap_pool(3), near_task(3, 3), 1),
                                   (PATH, near_task(2, 4), 1), (PATH, near_task(2, 10), 2), (PATH, near_task(2, 20), 2),
                                   (PATH, near_task(2, 9), 1), (pair_pool("N"), ODD, 0), (star_pool(3), agreement_task(3), 0)):
            told = self.checks_no_rule(pool, task, rounds)
            self.assertLessEqual(len(told), 5000)
            self.assertFalse(is_refusal(pool, task, rounds, told[:-1]))

    def test_refusals_with_many_outputs(self):
        for seed, inputs, outputs, rights, most in (
            (7, 8, 60, 100, 1000), (10, 6, 40, 60, 1000), (11, 8, 40, 100, 2000), (12, 3, 12, 24, 1000),
            (2, 7, 25, 110, 5000), (10, 7, 24, 120, 5000),
        ):
            drawn = Random(seed)
            task = Task({row: tuple(sorted({(drawn.randrange(outputs), drawn.randrange(outputs)) for _ in range(rights)}))
                         for row in product(range(inputs), repeat=2)})
            told = refusal(pair_pool("N"), task, 0)
            self.assertLessEqual(len(told), most)
            self.assertIs(is_refusal(pair_pool("N"), task, 0, told), True)
            self.assertTrue(slow_is_refusal(pair_pool("N"), task, 0, told))

    def test_values_near_refusals(self):
        for pool, task, rounds in ((PAIR, AGREE, 0), (pair_pool("N"), ODD, 0), (star_pool(3), agreement_task(3), 0)):
            told = refusal(pool, task, rounds)
            for value in near_values(told):
                self.assertIs(is_refusal(pool, task, rounds, value), slow_is_refusal(pool, task, rounds, value), value)
            self.judges(is_refusal, [pool, task, rounds], [told[::-1], told + told, [*told], told * 1000])

    def test_refusals_made_by_hand(self):
        low, high = (0, 0, ((0, 0),)), (1, 0, ((1, 1),))
        ends = (("stop", (0, 0), ()), ("stop", (1, 1), ()), ("stop", (0, 1), ()))
        asked = (("ask", low, ((0, 1), (1, 2))), ("ask", high, ((0, 3), (1, 4))))
        self.assertTrue(is_refusal(PAIR, AGREE, 0, (*asked, *ends)))
        for value in (
            (asked[0], asked[1], ends[0], ends[1], ends[0]), (asked[0], asked[1], ends[0], ends[2], ends[2]),
            (asked[0], asked[0], *ends), (("ask", low, ((0, 2), (1, 1))), asked[1], *ends), ends, ends[:1],
            (("ask", low, ((0, 1),)), asked[1], *ends), (("ask", low, ((0, 1), (1, 1))), asked[1], *ends),
            (("ask", low, ((0, 1), (1, 2), (2, 5))), asked[1], *ends, ends[0]), (*asked, *ends, ends[0]),
            (("ask", low, ((False, 1), (True, 2))), asked[1], *ends), (("ask", low, ((1, 2), (0, 1))), asked[1], *ends),
            (("ask", (0, 0, ((0, 5),)), ((0, 1), (1, 2))), asked[1], *ends), (("ask", low, ((0, 0), (1, 2))), asked[1], *ends),
            (("halt", low, ((0, 1), (1, 2))), asked[1], *ends), (*asked, *ends[:2], ("stop", (0, 5), ())),
            (*asked, *ends[:2], ("stop", (0, 1), (0,))), (*asked, *ends[:2], ("stop", (0, True), ())),
        ):
            self.assertIs(is_refusal(PAIR, AGREE, 0, value), False)
            self.assertIs(slow_is_refusal(PAIR, AGREE, 0, value), False)

    def test_a_refusal_that_needs_all_rows(self):
        task = Task({(0, 0): ((0, 0),), (0, 1): ((0, 1),), (1, 0): ((0, 1),), (1, 1): ((1, 0),)})
        told = refusal(pair_pool("N"), task, 0)
        self.assertTrue(is_refusal(pair_pool("N"), task, 0, told))

    def test_no_view_is_asked_twice_on_a_way(self):
        low, high = (0, 0, ((0, 0),)), (1, 0, ((1, 1),))
        for again in (low, (1, 0, ((1, 0),))):
            value = (
                ("ask", low, ((0, 1), (1, 2))), ("ask", high, ((0, 3), (1, 4))), ("ask", again, ((0, 5), (1, 6))),
                ("stop", (1, 1), ()), ("stop", (0, 1), ()), ("stop", (0, 0), ()), ("stop", (0, 0), ()))
            self.assertIs(is_refusal(PAIR, AGREE, 0, value), again != low)
            self.assertIs(slow_is_refusal(PAIR, AGREE, 0, value), again != low)
        # A view that is asked again on another way is asked once only on each.
        value = (
            ("ask", low, ((0, 1), (1, 2))), ("ask", high, ((0, 3), (1, 4))), ("ask", high, ((0, 5), (1, 6))),
            ("stop", (1, 1), ()), ("stop", (0, 1), ()), ("stop", (0, 0), ()), ("stop", (0, 0), ()))
        self.assertIs(is_refusal(PAIR, AGREE, 0, value), True)

    def test_refusals_of_five_thousand_nodes_and_more(self):
        pool, task = pair_pool("N"), many_rows_task()
        told = refusal(pool, task, 0)
        for many in (4998, 4999, 5000, 5001, 5002):
            value = widened(task, told, many)
            self.assertEqual(len(value), many)
            self.assertIs(is_refusal(pool, task, 0, value), many <= 5000)

    def test_least_for(self):
        for pool, task in ((PATH, near_task(2, 3)), (PATH, near_task(2, 9)), (PAIR, AGREE), (PATH, AGREE), (PAIR, near_task(2, 1)),
                           (snap_pool(3), near_task(3, 2)), (star_pool(3), agreement_task(3))):
            for most in range(3):
                told = [rounds for rounds in range(most + 1) if can_do(pool, task, rounds)]
                self.assertEqual(least_for(pool, task, most=most), told[0] if told else None)
        self.assertEqual((least_for(PATH, near_task(2, 27)), least_for(PATH, near_task(2, 28))), (3, None))
        self.assertEqual(least_for(PATH, near_task(2, 28), most=4), 4)
        self.assertEqual(least_for(WIDE, near_task(2, 1), most=6), 0)
        self.fails_keeping(TooMany, 3000, least_for, WIDE, AGREE)
        self.assertIsNone(least_for(WIDE, AGREE, most=1))
        self.fails_keeping(TooMany, 4000, least_for, Pool(WIDE.webs[:33]), AGREE)
        self.checks_arguments(least_for, [PATH, AGREE], [NO_POOLS, NO_TASKS])
        for most in not_numbers(0, 6):
            self.fails_keeping(InvalidNumber, most, least_for, PATH, AGREE, most=most)
            self.fails_keeping(InvalidNumber, most, least_for, PATH, agreement_task(3), most=most)
            self.fails(InvalidTask, least_for, PATH, None, most=most)
        self.fails(InvalidOperation, least_for, PATH, agreement_task(3), most=0)

    def test_wrong_arguments(self):
        for call, more in ((can_do, []), (made_rule, []), (refusal, []), (is_refusal, [None]), (Chooser, [])):
            self.checks_arguments(call, [PATH, AGREE, 0, *more], [NO_POOLS, NO_TASKS, NO_ROUNDS, *[None for _ in more]])
            self.fails(InvalidOperation, call, WIDE, agreement_task(3), 2, *more)
            for rounds in (-1, 7, True, None):
                self.fails_keeping(InvalidNumber, rounds, call, WIDE, agreement_task(3), rounds, *more)
            self.fails_keeping(TooMany, 3000, call, WIDE, AGREE, 2, *more)
            full = Pool(tuple(full_web(2).with_mark(0, mark) for mark in range(33)))
            self.fails_keeping(TooMany, 4000, call, full, AGREE, 2, *more)
        self.assertTrue(can_do(Pool(full.webs[:31]), AGREE, 2))


class ChooserTest(Case):
    def checks_state(self, chooser, views, solutions, chosen):
        left = [rule for rule in solutions if all(rule[view] == output for view, output in chosen)]
        self.assertEqual(list(chooser.settled.items()), sorted(chosen))
        self.assertEqual(chooser.open_views, tuple(view for view in views if view not in dict(chosen)))
        self.assertEqual((len(chooser), str(chooser)), (len(chosen), f"chooser with {len(chosen)} of {len(views)} views"))
        for view in views:
            self.assertEqual(chooser.options(view), tuple(sorted({rule[view] for rule in left})))
        self.assertIn(chooser.rule().table, left)

    def test_drawn_histories(self):
        drawn = Random(41)
        tried = 0
        for pool, task, rounds in drawn_cases(43, 220):
            solutions = slow_solutions(pool, task, rounds, 1500)
            if not solutions:
                continue
            tried += 1
            chooser, chosen, views = Chooser(pool, task, rounds), [], sorted(solutions[0])
            for _ in range(12):
                self.checks_state(chooser, views, solutions, chosen)
                what = drawn.choice(("choose", "choose", "undo", "twin"))
                if what == "choose":
                    view = drawn.choice(views)
                    output = drawn.choice(task.outputs(view[0]))
                    more = [*chosen, (view, output)]
                    if view in dict(chosen):
                        self.fails(InvalidOperation, chooser.choose, view, output)
                    elif any(all(rule[each] == told for each, told in more) for rule in solutions):
                        self.assertIsNone(chooser.choose(view, output))
                        chosen = more
                    else:
                        self.fails_keeping(Refused, view, chooser.choose, view, output)
                elif what == "undo":
                    many = drawn.randrange(len(chosen) + 1)
                    gone = chosen[len(chosen) - many:]
                    self.assertEqual(chooser.undo(many=many), tuple(view for view, _ in reversed(gone)))
                    chosen = chosen[:len(chosen) - many]
                else:
                    elder, chooser = chooser, chooser.twin()
                    self.assertEqual(elder, chooser)
                    elder.undo(many=len(elder))
                again = Chooser(pool, task, rounds)
                for view, output in chosen:
                    again.choose(view, output)
                self.assertEqual((chooser, chooser.rule()), (again, again.rule()))
                self.fails_keeping(NothingToUndo, len(chosen) + 1, chooser.undo, many=len(chosen) + 1)
        self.assertGreater(tried, 30)

    def test_wrong_choices(self):
        chooser = Chooser(PATH, near_task(2, 2), 1)
        view = chooser.open_views[0]
        for value in [*WRONG, *near_values(view), (0, 0, ((0, 2),)), (0, 1, ((0, 0),))]:
            if repr(value) not in map(repr, chooser.open_views):
                self.fails(InvalidOperation, chooser.options, value)
                self.fails(InvalidOperation, chooser.choose, value, 0)
        for output in wrong_where(lambda value: is_int(value) and 0 <= value <= 2, 3, 99):
            self.fails(InvalidOperation, chooser.choose, view, output)
        chooser.choose(view, chooser.options(view)[0])
        for output in (0, 1, 2, 3, None):
            self.fails(InvalidOperation, chooser.choose, view, output)
        self.assertEqual(len(chooser), 1)
        for value in wrong_where(lambda value: is_int(value) and 0 <= value < 10 ** 60):
            self.fails_keeping(InvalidNumber, value, chooser.undo, many=value)
        for value in (2, 10 ** 60 - 1):
            self.fails_keeping(NothingToUndo, value, chooser.undo, many=value)
        self.assertEqual((chooser.undo(many=0), chooser.undo(), len(chooser)), ((), (view,), 0))

    def test_equality_and_sharing(self):
        task = near_task(2, 2)
        one, other = (0, 0, ((0, 0),)), (1, 1, ((1, 0),))
        told = []
        for choices in ((), ((one, 0),), ((one, 0), (other, 0)), ((other, 0), (one, 0))):
            chooser = Chooser(PATH, task, 1)
            for view, output in choices:
                chooser.choose(view, output)
            told.append(chooser)
        for at, each in enumerate(told):
            for place, another in enumerate(told):
                self.assertIs(each == another.twin(), at == place)
                self.assertIs(each != another.twin(), at != place)
        self.assertNotEqual(told[0], Chooser(pair_pool("LRB"), task, 1))
        self.assertNotEqual(told[0], Chooser(PATH, near_task(2, 1), 1))
        self.assertNotEqual(Chooser(PATH, near_task(2, 1), 0), Chooser(PATH, near_task(2, 1), 1))
        for value in WRONG:
            self.assertIs(told[0] == value, False)
        told[1].settled.clear()
        self.assertEqual((len(told[1].settled), type(told[1].rule())), (1, Rule))
        with self.assertRaises(TypeError):
            iter(told[0])

    def test_great_choosers(self):
        chooser = Chooser(snap_pool(3), near_task(3, 4), 2)
        views = chooser.open_views
        low = [view for view in views if {entry for _, entry in view[2]} == {0}][0]
        self.assertEqual(chooser.options(low), (0,))
        chooser.choose(low, 0)
        self.fails_keeping(Refused, views[-1], chooser.choose, views[-1], 0)
        self.assertTrue(does(chooser.rule(), near_task(3, 4)))
