"""Plans of two threads on an object, against rounds gone through step by step."""

from itertools import combinations, product
from random import Random

from poolmaps.base.pools import Pool
from poolmaps.base.webs import Web
from poolmaps.errors import InvalidKind, InvalidNumber, InvalidOperation
from poolmaps.groups.bars import agree_in
from poolmaps.groups.closed import can_agree, common_roots, is_closed
from poolmaps.known.words import known
from poolmaps.objects.kinds import Kind, adder_kind, cell_kind, flag_kind, sticky_kind, swap_kind
from poolmaps.objects.plans import (
    Plan, confused_group, confusion, first_done, interleavings, is_confusion, plan_pool, plan_rule, plan_web, tells,
    telling_plans,
)
from poolmaps.tasks.rules import does
from poolmaps.tasks.tasks import agreement_task
from tests.reckoning import slow_view
from tests.support import WRONG, Case, is_int, is_int_tuple, near_values, not_numbers, wrong_where
from tests.test_kinds import after_by_hand, drawn_kinds

TWENTY = sorted(
    tuple(0 if at in zeros else 1 for at in range(6)) for zeros in combinations(range(6), 3))


def web_by_hand(plan, steps):
    """The web of an interleaving: each step in its turn, written down as it is told."""
    object_state, places, heard, marks = plan.start, {0: 0, 1: 0}, {}, {}
    wrote, answered = set(), {}
    for thread in steps:
        if places[thread] == 0:
            wrote.add(thread)
        if places[thread] == 1:
            object_state, answered[thread] = plan.kind.table[object_state][plan.operations[thread]]
        if places[thread] == 2:
            heard[thread] = tuple(sorted(wrote - {thread}))
            marks[thread] = 100 * answered[thread] + object_state
        places[thread] += 1
    return Web((heard[0], heard[1]), (marks[0], marks[1]))


def first_by_hand(steps):
    """The thread whose second step comes first."""
    return min((0, 1), key=lambda thread: [at for at, each in enumerate(steps) if each == thread][1])


def seen_by_hand(plan, thread, order):
    state, answers = after_by_hand(plan.kind.table, plan.start, [plan.operations[each] for each in order])
    return (answers[order.index(thread)], state)


def confusions_by_hand(plan):
    return [
        (t, order) for t, u in ((0, 1), (1, 0)) for order in ((t,), (t, u))
        if seen_by_hand(plan, t, order) == seen_by_hand(plan, t, (u, t))]


def plans_of(kind):
    for start, first, second in product(range(kind.states), range(kind.operations), range(kind.operations)):
        yield Plan(kind, start, first, second)


def some_plans():
    named = [flag_kind(), adder_kind(1), adder_kind(2), adder_kind(3), swap_kind(2), cell_kind(2), sticky_kind(2)]
    plans = [plan for kind in named for plan in plans_of(kind)]
    return plans + [plan for kind in drawn_kinds(30, 13) for plan in list(plans_of(kind))[::5]]


PLANS = some_plans()


class PlansTest(Case):
    def test_plans(self):
        for plan in PLANS:
            first, second = plan.operations
            self.assertEqual(plan, Plan(plan.kind, plan.start, first, second))
            self.assertEqual(str(plan), f"plan from {plan.start} by {first} and {second}")
            turned = plan.turned()
            self.assertEqual((turned.kind, turned.start, turned.operations), (plan.kind, plan.start, (second, first)))
            for thread, order in product((0, 1), ((0,), (1,), (0, 1), (1, 0))):
                if thread in order:
                    self.assertEqual(plan.seen(thread, order), seen_by_hand(plan, thread, order))
                else:
                    self.fails(InvalidOperation, plan.seen, thread, order)
        for one, other in product(PLANS[::7], PLANS[::5]):
            same = (one.kind.table, one.start, one.operations) == (other.kind.table, other.start, other.operations)
            self.assertIs(one == other, same)
        for value in WRONG:
            self.assertIs(PLANS[0] == value, False)

    def test_errors(self):
        kinds = wrong_where(lambda value: type(value) is Kind)
        self.checks_arguments(Plan, (cell_kind(2), 0, 0, 2), (
            (InvalidKind, kinds), (InvalidNumber, not_numbers(0, 1)), (InvalidNumber, not_numbers(0, 2)),
            (InvalidNumber, not_numbers(0, 2))))
        plan = Plan(flag_kind(), 0, 0, 0)
        orders = wrong_where(lambda value: is_int_tuple(value) and value in ((0,), (0, 1), (1, 0)),
                             (1,), (0, 0), (0, 1, 0), (False, 1), (0, True), [0, 1], "01", (0, -1), (0, 2))
        self.checks_arguments(plan.seen, (0, (0,)), ((InvalidNumber, not_numbers(0, 1)), (InvalidOperation, orders)))
        plans = (InvalidOperation, wrong_where(lambda value: type(value) is Plan, flag_kind()))
        steps = (InvalidOperation, wrong_where(lambda value: False, (0, 0, 1, 1), (0, 0, 0, 0, 1, 1), (0,) * 6,
                                               (False, 0, 0, 1, 1, 1), [0, 0, 0, 1, 1, 1], (0, 0, 0, 1, 1, 1, 1), (0, 0, 1, 1, 1),
                                               (0, 0, 0, 0, 1, 1, 1), (0, 0, 0, 0, 1, 2), (-1, 0, 1, 1, 1, 1)))
        self.checks_arguments(plan_web, (plan, TWENTY[0]), (plans, steps))
        for call in (plan_pool, tells, confusion, plan_rule):
            self.checks_arguments(call, (plan,), (plans,))
        self.checks_arguments(is_confusion, (plan, None), (plans, None))
        self.checks_arguments(confused_group, (Plan(cell_kind(2), 0, 0, 1), (0, (0,))), (plans, (
            InvalidOperation, wrong_where(lambda value: False, (0, (1,)), (False, (0,)), (0, (False,)), [0, (0,)]))))
        self.checks_arguments(first_done, (plan, 1, ((0, 1), 101)), (
            plans, (InvalidNumber, not_numbers(0, 1)),
            (InvalidOperation, wrong_where(lambda value: False, ((0, 1), 1.5), ((0, True), 101), ((0, 1), 100),
                                           [(0, 1), 101], ((1,), 101), ([0, 1], 101)))))
        self.checks_arguments(telling_plans, (flag_kind(),), ((InvalidKind, kinds),))
        for values in not_numbers(1, 8):
            self.fails_keeping(InvalidNumber, values, plan_rule, plan, values=values)
            self.fails_keeping(InvalidNumber, values, plan_rule, Plan(cell_kind(2), 0, 0, 1), values=values)
            self.fails(InvalidOperation, plan_rule, None, values=values)
        self.fails(InvalidOperation, plan_rule, Plan(cell_kind(2), 0, 0, 1))

    def test_webs_of_interleavings(self):
        self.assertEqual(list(interleavings()), TWENTY)
        for plan in PLANS:
            webs = [web_by_hand(plan, steps) for steps in TWENTY]
            self.assertEqual([plan_web(plan, steps) for steps in TWENTY], webs)
            once = [web for at, web in enumerate(webs) if web not in webs[:at]]
            self.assertEqual(plan_pool(plan), Pool(tuple(once)))

    def test_confusions(self):
        drawn = Random(3)
        for plan in PLANS:
            told = confusions_by_hand(plan)
            self.assertIs(tells(plan), not told)
            self.assertTrue(confusion(plan) in told or (confusion(plan) is None and not told))
            for t, u in ((0, 1), (1, 0)):
                for order in ((t,), (t, u), (u, t), (u,), (), (t, t)):
                    self.assertIs(is_confusion(plan, (t, order)), (t, order) in told)
            for value in told[:1]:
                for near in near_values(value):
                    plain = type(near) is tuple and len(near) == 2 and is_int(near[0]) and is_int_tuple(near[1])
                    self.assertIs(is_confusion(plan, near), plain and near in told)
        self.judges(is_confusion, (PLANS[0],))
        self.judges(is_confusion, (drawn.choice(PLANS),))

    def test_groups_of_confusions_and_agreement(self):
        for plan in PLANS:
            pool = plan_pool(plan)
            self.assertIs(can_agree(pool), tells(plan))
            self.assertIs(agree_in(pool, 1), tells(plan))
            for t, order in confusions_by_hand(plan):
                u = 1 - t
                own = (t, u, t, u, t, u) if order == (t, u) else (t, u, t, t, u, u)
                turns = ((t, t, t, u, u, u), own, (t, u, u, t, t, u), (u, u, u, t, t, t))
                group = tuple(sorted({pool.index_of(web_by_hand(plan, steps)) for steps in turns}))
                self.assertEqual(confused_group(plan, (t, order)), group)
                self.assertTrue(is_closed(pool, group))
                self.assertEqual(common_roots(pool, group), ())

    def test_first_done(self):
        for plan in PLANS[::2]:
            webs = {steps: web_by_hand(plan, steps) for steps in TWENTY}
            signals = {(t, web.signals[t]) for web in webs.values() for t in (0, 1)}
            for thread, signal in signals:
                firsts = {first_by_hand(steps) for steps in TWENTY if webs[steps].signals[thread] == signal}
                told = first_done(plan, thread, signal)
                self.assertEqual(told, firsts.pop() if len(firsts) == 1 else None)
                if tells(plan):
                    self.assertIn(told, signal[0])
                for other in near_values(signal):
                    same = any((thread, other) == each for each in signals)
                    plain = type(other) is tuple and len(other) == 2 and is_int_tuple(other[0]) and is_int(other[1])
                    if not (same and plain):
                        self.fails(InvalidOperation, first_done, plan, thread, other)

    def test_rules(self):
        telling = [plan for plan in PLANS if tells(plan)]
        self.assertGreater(len(telling), 20)
        for plan, values in [*product(telling[::9], (1, 2, 3)), (telling[0], 8)]:
            rule, pool = plan_rule(plan, values=values), plan_pool(plan)
            self.assertEqual((rule.pool, rule.rounds), (pool, 1))
            rows = list(product(range(values), repeat=2))
            views = set()
            for row, index in product(rows, range(len(pool))):
                firsts = {
                    first_by_hand(steps) for steps in TWENTY if web_by_hand(plan, steps) == pool.webs[index]}
                self.assertEqual(len(firsts), 1)
                self.assertEqual(rule.outcome(row, (index,)), (row[firsts.pop()],) * 2)
                views |= {(t, slow_view(pool, (index,), t, row)) for t in (0, 1)}
            self.assertEqual(len(rule), len(views))
            if values < 8:
                self.assertTrue(does(rule, agreement_task(2, values)))
        self.assertEqual(plan_rule(telling[0]), plan_rule(telling[0], values=2))
        self.assertEqual(known(plan_pool(telling[0]), (0,))[0], (0,))

    def test_telling_plans(self):
        for kind in [flag_kind(), adder_kind(3), swap_kind(2), sticky_kind(3), cell_kind(2), *drawn_kinds(12, 17)]:
            told = tuple(
                (plan.start, *plan.operations) for plan in plans_of(kind) if not confusions_by_hand(plan))
            self.assertEqual(telling_plans(kind), told)
            for start, first, second in product(range(kind.states), range(kind.operations), range(kind.operations)):
                one = after_by_hand(kind.table, start, (first, second))
                other = after_by_hand(kind.table, start, (second, first))
                if one[0] == other[0] and (one[1][0] == other[1][1] or one[1][1] == other[1][0]):
                    self.assertNotIn((start, first, second), told)
            if kind.states < 7 and kind.operations < 8:
                both = telling_plans(kind * flag_kind())
                self.assertTrue(all((2 * start, first, second) in both for start, first, second in told))
        self.assertEqual(telling_plans(cell_kind(7)), ())
