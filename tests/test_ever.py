"""Part 6b: tasks of two threads for every number of rounds, with [6.1] and [6.3] to [6.5]."""

from itertools import permutations, product
from random import Random

from poolmaps.base.pools import Pool, pair_pool, snap_pool
from poolmaps.base.webs import Web
from poolmaps.errors import InvalidNumber, InvalidOperation, InvalidPool, InvalidTask, NothingToUndo, TooMany
from poolmaps.pairs.ever import (
    Choosing, can_ever, is_pair_certificate, is_pair_refusal, least_ever, pair_certificate, pair_kind, pair_refusal,
    pair_rule,
)
from poolmaps.tasks.rules import does
from poolmaps.tasks.search import can_do, refusal
from poolmaps.tasks.tasks import Task, agreement_task, near_task
from tests.support import (
    WRONG, Case, is_int, is_int_tuple, near_values, not_numbers, pair_pools, slow_run_views, wrong_where,
)
from tests.test_graphs import drawn_task, is_slow_way, outputs_at, slow_length
from tests.test_search import many_rows_task, widened
from tests.test_tasks import not_tasks

PATH, PAIR, SILENT = pair_pool("RLB"), pair_pool("RL"), pair_pool("BN")
AGREE, NEAR = agreement_task(2), near_task(2, 3)
KINDS = {
    "R": "first", "L": "second", "B": "full", "RB": "first", "LB": "second", "RL": "apart", "RLB": "path",
}
UNMARKED = [pair_pool(letters) for letters in ("R", "L", "B", "RB", "LB", "RL", "RLB", "N", "RLBN")]


def no_pair_pools():
    more = [snap_pool(1), snap_pool(3), Pool((Web(((), (0,)), (0, 1)),)), Pool((Web(((), ())), Web(((), ()), (1, 0))))]
    return wrong_where(lambda value: type(value) is Pool and value.size == 2 and not value.is_marked, *more)


NO_POOLS = (InvalidPool, no_pair_pools())
NO_TASKS = (InvalidTask, not_tasks(2))
NO_ROUNDS = not_numbers(0, 6)


def slow_fits(kind, rounds, task, row, one, other):
    """The list of [6.3]."""
    if kind == "silent" or rounds == 0:
        return (one, other) in task[row]
    if kind == "path":
        if one not in outputs_at(task, row, 0) or other not in outputs_at(task, row, 1):
            return False
        length = slow_length(task, row, one, other)
        return length is not None and (rounds is None or length <= 3 ** rounds)
    starts = one in outputs_at(task, row, 0)
    ends = other in outputs_at(task, row, 1)
    return {"apart": starts and ends, "first": starts, "second": ends, "full": True}[kind]


def slow_menus(task):
    """What a lone choice can give to each input of each thread."""
    told = {}
    for row, rights in task.table.items():
        for thread in (0, 1):
            told.setdefault((thread, row[thread]), set()).update(right[thread] for right in rights)
    return {entry: sorted(told[entry]) for entry in sorted(told)}


def slow_choices(kind, rounds, task):
    """All lone choices that fit all rows."""
    menus = slow_menus(task)
    fits = {
        (row, one, other): slow_fits(kind, rounds, task, row, one, other)
        for row in task.rows for one in menus[0, row[0]] for other in menus[1, row[1]]}
    found = []
    for outputs in product(*menus.values()):
        chosen = dict(zip(menus, outputs))
        if all(fits[row, chosen[0, row[0]], chosen[1, row[1]]] for row in task.rows):
            found.append(chosen)
    return found


def is_slow_certificate(pool, task, value):
    if type(value) is not tuple or len(value) != 3 or not all(type(part) is dict for part in value):
        return False
    kind, menus = pair_kind(pool), slow_menus(task)
    for thread in (0, 1):
        if sorted(map(repr, value[thread])) != sorted(repr(entry) for own, entry in menus if own == thread):
            return False
        if not all(is_int(output) and output in menus[thread, entry] for entry, output in value[thread].items()):
            return False
    if sorted(map(repr, value[2])) != sorted(map(repr, task.rows)):
        return False
    for row, way in value[2].items():
        one, other = value[0][row[0]], value[1][row[1]]
        if not slow_fits(kind, None, task, row, one, other) or type(way) is not tuple:
            return False
        if kind == "path":
            if not is_slow_way(task, row, one, other, way):
                return False
            continue
        if not all(is_int_tuple(right) and right in task[row] for right in way):
            return False
        ends = [(right[0] == one, right[1] == other) for right in way]
        right = {
            "silent": len(ends) == 1 and ends[0] == (True, True), "apart": len(ends) == 2 and ends[0][0] and ends[1][1],
            "first": len(ends) == 1 and ends[0][0], "second": len(ends) == 1 and ends[0][1], "full": len(ends) == 1,
        } if ends else {kind: False}
        if not right[kind]:
            return False
    return True


def is_slow_refusal(pool, task, value, rounds):
    """The definition, node by node."""
    if type(value) is not tuple or not 1 <= len(value) <= 5000:
        return False
    kind, menus = pair_kind(pool), slow_menus(task)
    ways, named = {0: {}}, []
    for number, node in enumerate(value):
        if number not in ways or type(node) is not tuple or not node:
            return False
        taken = ways[number]
        if type(node[0]) is str and node[0] == "ask" and len(node) == 4:
            _, thread, entry, branches = node
            if not is_int(thread) or not is_int(entry) or (thread, entry) not in menus or (thread, entry) in taken:
                return False
            if type(branches) is not tuple or not all(is_int_tuple(branch) and len(branch) == 2 for branch in branches):
                return False
            if [output for output, _ in branches] != menus[thread, entry]:
                return False
            for output, target in branches:
                if not number < target < len(value):
                    return False
                named.append(target)
                ways[target] = {**taken, (thread, entry): output}
        elif type(node[0]) is str and node[0] == "stop" and len(node) == 2:
            row = node[1]
            if not is_int_tuple(row) or row not in task.table:
                return False
            ones = [taken.get((0, row[0]))] if (0, row[0]) in taken else menus[0, row[0]]
            others = [taken.get((1, row[1]))] if (1, row[1]) in taken else menus[1, row[1]]
            if any(slow_fits(kind, rounds, task, row, one, other) for one in ones for other in others):
                return False
        else:
            return False
    return sorted(named) == list(range(1, len(value)))


def cases(seed, many):
    drawn = Random(seed)
    for _ in range(many):
        task = drawn_task(drawn, drawn.choice((2, 2, 3)), drawn.choice((2, 3, 4)), 4, drawn.choice((2, 3, 5)))
        yield drawn.choice(UNMARKED), task


class EverTest(Case):
    def test_kinds(self):
        for pool in pair_pools():
            for order in permutations(range(len(pool.webs))):
                turned = pool.picked(order)
                letters = "".join(letter for letter in "RLB" if pair_pool(letter)[0] in turned)
                silent = pair_pool("N")[0] in turned
                self.assertEqual(pair_kind(turned), "silent" if silent else KINDS[letters])
        self.checks_arguments(pair_kind, [PATH], [NO_POOLS])

    def test_by_all_lone_choices_and_all_rules(self):
        reached = set()
        for pool, task in [*cases(61, 260), *[(pool, near_task(2, most)) for pool in UNMARKED for most in (2, 3, 4)]]:
            kind = pair_kind(pool)
            told = [bool(slow_choices(kind, rounds, task)) for rounds in (0, 1, 2, 3, None)]
            least = told.index(True) if True in told[:4] else None
            self.assertEqual(least_ever(pool, task), least)
            self.assertIs(can_ever(pool, task), told[4])
            self.assertIs(told[4], least is not None)
            for rounds in (0, 1, 2):
                self.assertIs(can_do(pool, task, rounds), told[rounds])
            reached.add((kind, least))
        for wanted in (("path", 0), ("path", 1), ("path", None), ("silent", 0), ("silent", None), ("apart", 1),
                       ("first", 1), ("second", 1), ("full", 1)):
            self.assertIn(wanted, reached)

    def test_near_agreement(self):
        for most, least in ((1, 0), (2, 1), (3, 1), (4, 2), (9, 2), (10, 3), (27, 3), (28, 4), (81, 4), (82, 5), (85, 5)):
            self.assertEqual(least_ever(PATH, near_task(2, most)), least)
            self.assertEqual(least_ever(PAIR, near_task(2, most)), int(most > 1))
            self.assertEqual(least_ever(SILENT, near_task(2, most)), None if most > 1 else 0)
        self.assertEqual([least_ever(pool, AGREE) for pool in UNMARKED], [1, 1, 1, 1, 1, 1, None, None, None])

    def test_certificates(self):
        for pool, task in cases(67, 150):
            if can_ever(pool, task):
                told = pair_certificate(pool, task)
                self.assertTrue(is_slow_certificate(pool, task, told))
                self.assertIs(is_pair_certificate(pool, task, told), True)
                self.assertEqual([list(part) for part in told], [sorted(part) for part in told])
            else:
                self.fails(InvalidOperation, pair_certificate, pool, task)

    def test_values_near_certificates(self):
        for pool in UNMARKED:
            task = near_task(2, 3) if pair_kind(pool) != "silent" else near_task(2, 1)
            told = pair_certificate(pool, task)
            for value in near_values(told):
                self.assertIs(is_pair_certificate(pool, task, value), is_slow_certificate(pool, task, value), value)
            self.judges(is_pair_certificate, [pool, task], [{}, ({}, {}, {}), (told[1], told[0], told[2])])

    def test_long_ways_in_certificates(self):
        first, second, ways = pair_certificate(PATH, NEAR)
        for many, told in ((2498, True), (2499, False)):
            long = {**ways, (0, 1): ways[0, 1] + (ways[0, 1][-1],) * (2 * many)}
            self.assertIs(is_pair_certificate(PATH, NEAR, (first, second, long)), told)

    def test_refusals(self):
        for pool, task in cases(71, 150):
            for rounds in (None, 0, 1, 2):
                if slow_choices(pair_kind(pool), rounds, task):
                    self.fails(InvalidOperation, pair_refusal, pool, task, rounds=rounds)
                    continue
                told = pair_refusal(pool, task, rounds=rounds)
                self.assertTrue(is_slow_refusal(pool, task, told, rounds))
                self.assertIs(is_pair_refusal(pool, task, told, rounds=rounds), True)
                for other in (None, 0, 1, 2):
                    self.assertIs(is_pair_refusal(pool, task, told, rounds=other), is_slow_refusal(pool, task, told, other))

    def test_values_near_refusals(self):
        for pool, task, rounds in ((PATH, AGREE, None), (PATH, NEAR, 0), (PAIR, AGREE, 0), (SILENT, near_task(2, 2), None)):
            told = pair_refusal(pool, task, rounds=rounds)
            for value in near_values(told):
                self.assertIs(is_pair_refusal(pool, task, value, rounds=rounds), is_slow_refusal(pool, task, value, rounds))
            self.judges(lambda value: is_pair_refusal(pool, task, value, rounds=rounds), [], [told[::-1], told * 2, list(told)])
        self.judges(is_pair_refusal, [pair_pool("B"), AGREE], [(("stop", (0, 1)),)])

    def test_no_input_is_asked_twice_on_a_way(self):
        for entry, told in ((0, False), (1, True)):
            value = (
                ("ask", 0, 0, ((0, 1), (1, 2))), ("ask", 1, 1, ((0, 3), (1, 4))), ("ask", 0, entry, ((0, 5), (1, 6))),
                ("stop", (1, 1)), ("stop", (0, 1)), ("stop", (0, 0)), ("stop", (0, 0)))
            self.assertIs(is_pair_refusal(PATH, AGREE, value), told)
            self.assertIs(is_slow_refusal(PATH, AGREE, value, None), told)

    def test_refusals_of_five_thousand_nodes_and_more(self):
        pool, task = pair_pool("N"), many_rows_task()
        told = refusal(pool, task, 0)
        for many in (4999, 5000, 5001):
            value = tuple(
                ("ask", node[1][0], node[1][2][0][1], node[2]) if node[0] == "ask" else node[:2]
                for node in widened(task, told, many))
            self.assertEqual(len(value), many)
            self.assertIs(is_pair_refusal(pool, task, value), many <= 5000)

    def test_rules(self):
        for pool, task in cases(73, 150):
            for rounds in (0, 1, 2):
                if slow_choices(pair_kind(pool), rounds, task):
                    rule = pair_rule(pool, task, rounds)
                    self.assertEqual((rule.pool, rule.rounds, does(rule, task)), (pool, rounds, True))
                    views = {view for told in slow_run_views(pool, rounds, task.rows).values() for view in told}
                    self.assertEqual(set(rule), views)
                else:
                    self.fails(InvalidOperation, pair_rule, pool, task, rounds)
        self.assertTrue(does(pair_rule(PATH, near_task(2, 85), 6), near_task(2, 85)))
        self.assertTrue(does(pair_rule(PATH, near_task(2, 27), 3), near_task(2, 27)))
        self.assertTrue(does(pair_rule(PAIR, agreement_task(2, 8), 5), agreement_task(2, 8)))
        self.fails(InvalidOperation, pair_rule, PATH, near_task(2, 28), 3)

    def test_too_many(self):
        great = Task({(a, b): ((0, 0),) for a in range(8) for b in range(8)})
        self.fails_keeping(TooMany, 4000, pair_rule, PATH, great, 6)
        self.fails_keeping(TooMany, 4000, pair_rule, PATH, great, 4)
        self.fails_keeping(TooMany, 3000, pair_rule, pair_pool("RLBN"), great, 6)
        self.fails(InvalidOperation, pair_rule, pair_pool("RLBN"), NEAR, 6)
        self.assertEqual((least_ever(PATH, great), can_ever(pair_pool("RLBN"), NEAR)), (0, False))
        self.assertTrue(is_pair_refusal(pair_pool("RLBN"), NEAR, pair_refusal(pair_pool("RLBN"), NEAR, rounds=6), rounds=6))

    def test_great_tasks(self):
        pairs = [(a, b) for a in range(16) for b in range(16)]
        wide = Task({row: tuple(pairs) for row in product(range(8), repeat=2)})
        self.assertEqual(least_ever(PATH, wide), 0)
        chain = tuple(sorted([(a, a) for a in range(100)] + [(a, a + 1) for a in range(99)]))
        ends = Task({(0, 0): ((99, 99),), (0, 1): chain, (1, 1): ((0, 0),)})
        self.assertEqual(least_ever(PATH, ends), 5)
        told = pair_certificate(PATH, ends)
        self.assertTrue(is_pair_certificate(PATH, ends, told))
        self.assertEqual(len(told[2][0, 1]), 199)
        self.assertTrue(does(pair_rule(PATH, ends, 5), ends))

    def test_wrong_arguments(self):
        for call, more in ((can_ever, []), (least_ever, []), (pair_certificate, []), (is_pair_certificate, [None]),
                           (pair_refusal, []), (is_pair_refusal, [None]), (Choosing, [])):
            self.checks_arguments(call, [PATH, NEAR, *more], [NO_POOLS, NO_TASKS, *[None for _ in more]])
        self.checks_arguments(pair_rule, [PATH, NEAR, 1], [NO_POOLS, NO_TASKS, (InvalidNumber, NO_ROUNDS)])
        for rounds in NO_ROUNDS:
            if rounds is not None:
                for call, more in ((pair_refusal, []), (is_pair_refusal, [None]), (Choosing, [])):
                    self.fails_keeping(InvalidNumber, rounds, call, PATH, NEAR, *more, rounds=rounds)
                    self.fails(InvalidTask, call, PATH, None, *more, rounds=rounds)


class ChoosingTest(Case):
    def checks_state(self, choosing, pool, task, rounds, given):
        menus, kind = slow_menus(task), pair_kind(pool)
        self.assertEqual(list(choosing.outs.items()), sorted(given.items()))
        self.assertEqual(choosing.lacking, tuple(entry for entry in menus if entry not in given))
        self.assertEqual((len(choosing), str(choosing)), (len(given), f"{len(given)} of {len(menus)} chosen"))
        stuck = slow_stuck(kind, rounds, task, menus, given)
        self.assertEqual(choosing.stuck, stuck[0] if stuck else None)
        for (thread, entry), outputs in menus.items():
            self.assertEqual(choosing.choices(thread, entry), tuple(outputs))

    def test_drawn_histories(self):
        drawn = Random(79)
        for pool, task in cases(83, 60):
            rounds = drawn.choice((None, 0, 1, 2))
            choosing, past, menus = Choosing(pool, task, rounds=rounds), [{}], slow_menus(task)
            for _ in range(12):
                self.checks_state(choosing, pool, task, rounds, past[-1])
                what = drawn.choice(("give", "give", "give", "undo", "twin"))
                if what == "give":
                    entry = drawn.choice(list(menus))
                    output = drawn.choice(menus[entry])
                    past.append({**past[-1], entry: output})
                    self.assertEqual(choosing.give(*entry, output), choosing.stuck)
                elif what == "undo":
                    many = drawn.randrange(min(4, len(past)))
                    past = past[:len(past) - many]
                    self.assertEqual(choosing.undo(many=many), choosing.stuck)
                else:
                    elder, choosing = choosing, choosing.twin()
                    self.assertEqual(elder, choosing)
                    entry = list(menus)[0]
                    elder.give(*entry, menus[entry][0])
                again = Choosing(pool, task, rounds=rounds)
                for entry, output in sorted(past[-1].items()):
                    again.give(*entry, output)
                self.assertEqual(choosing, again)
                self.fails_keeping(NothingToUndo, len(past), choosing.undo, many=len(past))

    def test_wrong_gifts(self):
        choosing = Choosing(PATH, NEAR, rounds=1)
        no_thread = (InvalidNumber, wrong_where(lambda value: is_int(value) and value in (0, 1)))
        self.checks_arguments(choosing.choices, [0, 1], [no_thread, no_thread])
        no_output = (InvalidNumber, wrong_where(lambda value: is_int(value) and 0 <= value <= 3, 4))
        self.checks_arguments(choosing.give, [0, 1, 2], [no_thread, no_thread, no_output])
        for value in wrong_where(lambda value: is_int(value) and 0 <= value < 10 ** 60):
            self.fails_keeping(InvalidNumber, value, choosing.undo, many=value)
        self.fails_keeping(NothingToUndo, 1, choosing.undo)
        self.assertEqual((choosing.undo(many=0), len(choosing), choosing.outs), (None, 0, {}))

    def test_another_output_is_taken_back_to_the_elder_one(self):
        choosing = Choosing(PATH, NEAR, rounds=0)
        choosing.give(0, 0, 0)
        choosing.give(1, 1, 3)
        self.assertEqual((choosing.stuck, choosing.give(1, 1, 1), choosing.outs), ((0, 1), (1, 1), {(0, 0): 0, (1, 1): 1}))
        self.assertEqual((choosing.undo(), choosing.outs), ((0, 1), {(0, 0): 0, (1, 1): 3}))
        self.assertEqual((choosing.undo(many=2), choosing.outs), (None, {}))

    def test_equality_and_sharing(self):
        told = []
        for pool, task, rounds in ((PATH, NEAR, None), (PATH, NEAR, 0), (PAIR, NEAR, None), (PATH, near_task(2, 4), None)):
            for given in ((), ((0, 0, 0),), ((0, 0, 1),), ((0, 0, 1), (1, 1, 3))):
                choosing = Choosing(pool, task, rounds=rounds)
                for gift in given:
                    choosing.give(*gift)
                told.append(choosing)
        for at, one in enumerate(told):
            for place, other in enumerate(told):
                self.assertIs(one == other.twin(), at == place)
                self.assertIs(one != other.twin(), at != place)
        for value in WRONG:
            self.assertIs(told[0] == value, False)
        told[1].outs.clear()
        self.assertEqual(told[1].outs, {(0, 0): 0})
        turned = Choosing(PATH, NEAR)
        turned.give(1, 1, 3)
        turned.give(0, 0, 1)
        self.assertEqual(turned, told[3])


def slow_stuck(kind, rounds, task, menus, given):
    """The rows that no lone choice with these outputs fits."""
    stuck = []
    for row in task.rows:
        ones = [given[0, row[0]]] if (0, row[0]) in given else menus[0, row[0]]
        others = [given[1, row[1]]] if (1, row[1]) in given else menus[1, row[1]]
        if not any(slow_fits(kind, rounds, task, row, one, other) for one in ones for other in others):
            stuck.append(row)
    return stuck
