"""The whole program: what all its parts tell of one pool, task and rule, and the points that join its parts."""

from random import Random

from poolmaps.base.pools import Pool, pair_pool, snap_pool
from poolmaps.desk.desk import Desk
from poolmaps.errors import InvalidOperation
from poolmaps.groups.bars import agree_in, least_rounds
from poolmaps.groups.closed import can_agree, is_closed, common_roots, splitting
from poolmaps.known.sights import all_views
from poolmaps.machines.machines import machine_of, rule_of
from poolmaps.machines.right import (
    driven_fault, is_machine_certificate, is_machine_fault, is_right, machine_certificate, right_rounds,
)
from poolmaps.machines.runs import met_letters, parting_run
from poolmaps.near.limits import near_limit
from poolmaps.objects.plans import confused_group, confusion, plan_pool, plan_rule, tells
from poolmaps.pairs.ever import can_ever, least_ever, pair_kind
from poolmaps.plays.plays import (
    forgetting_play, is_never, is_play_refusal, lesser_play, made_play, never_plays, play_refusal, power_play, same_play,
)
from poolmaps.plays.powers import power_pool
from poolmaps.tasks.rules import Rule, does
from poolmaps.tasks.search import can_do, least_for, made_rule
from poolmaps.tasks.tasks import agreement_task, near_task
from poolmaps.text.shell import Shell
from poolmaps.text.texts import read_pool, read_rule, read_task, write_pool, write_rule, write_task
from tests.engines import drawn_machine
from tests.support import Case, all_webs, pair_pools
from tests.test_plans import PLANS
from tests.test_plays import drawn_pools

AGREE, NEAR = agreement_task(2), near_task(2, 3)


def drawn_pool(drawn, size, most=3):
    """A pool of webs of one size, some of them marked."""
    webs = []
    for _ in range(drawn.randrange(1, most + 1)):
        web = drawn.choice(all_webs(size))
        if drawn.random() < 0.2:
            web = web.with_mark(drawn.randrange(size), 1)
        if web not in webs:
            webs.append(web)
    return Pool(tuple(webs))


def shell_with(pool, task):
    shell = Shell()
    shell(f"pool pool {write_pool(pool)}")
    shell(f"task task {write_task(task)}")
    return shell


class OnePoolTest(Case):
    def test_all_parts_tell_the_same(self):
        for pool in pair_pools():
            for task in (AGREE, NEAR, near_task(2, 1), near_task(2, 9)):
                least = least_for(pool, task, most=2)
                self.assertIs(can_ever(pool, task), least_ever(pool, task) is not None)
                self.assertTrue(least is None or least == least_ever(pool, task))
                if least is None:
                    self.assertTrue(least_ever(pool, task) is None or least_ever(pool, task) > 2)
                shell, desk = shell_with(pool, task), Desk()
                desk.put("pool", pool)
                desk.put("task", task)
                self.assertTrue(shell.desk() == desk)
                for rounds in range(3):
                    can = least is not None and rounds >= least
                    self.assertEqual(shell(f"can pool task {rounds}"), "yes" if can else "no")
                    self.assertEqual(shell(f"refusal pool task {rounds}") == "none", can)
                    limit = near_limit(pool, rounds)
                    self.assertEqual(shell(f"limit pool {rounds}"), "none" if limit is None else str(limit))
                    self.assertIs(limit is None, agree_in(pool, rounds))
                    if task == AGREE:
                        self.assertIs(can, limit is None)
                    elif task.rows == NEAR.rows:
                        self.assertIs(can, limit is None or limit >= task[(1, 1)][0][0])
                    if can:
                        self.goes_on(pool, task, rounds, shell)
                agrees = can_agree(pool)
                self.assertEqual(shell("told").split("; ")[0], "pool " + ("agrees" if agrees else "never"))
                self.assertIs(agrees, can_ever(pool, AGREE))
                self.assertEqual(shell("rounds pool"), str(least_rounds(pool)).lower())
                self.assertEqual(least_rounds(pool), least_ever(pool, AGREE))
        self.assertEqual(pair_kind(snap_pool(2)), "path")

    def goes_on(self, pool, task, rounds, shell):
        """The rule of a task through plays, machines, texts, the desk and the shell."""
        rule = made_rule(pool, task, rounds)
        self.assertTrue(does(rule, task))
        self.assertEqual(read_rule(read_pool(write_pool(pool)), write_rule(rule)), rule)
        self.assertEqual(read_task(write_task(task)), task)
        machine = machine_of(rule)
        self.assertTrue(is_right(machine, pool, task))
        self.assertEqual(right_rounds(machine, pool, task), rounds)
        self.assertEqual(rule_of(machine, pool, rounds, task.rows), rule)
        self.assertEqual(same_play(pool).carried(rule, task), rule)
        power = power_pool(pool, 2)
        longer = rule.lengthened(rounds, task)
        self.assertTrue(does(longer, task))
        carried = power_play(pool, 2).carried(made_rule(power, task, rounds), task)
        self.assertTrue(does(carried, task))
        self.assertTrue(is_right(machine_of(carried), pool, task))
        self.assertEqual(shell(f"rule rule pool task {rounds}").split(" ")[0] in ("rule", "nothing"), True)
        self.assertEqual((shell("does rule task"), shell("show rule")), ("yes", write_rule(rule)))
        self.assertEqual(shell(f"demand can pool task {rounds}"), "nothing")
        self.assertEqual(shell("demand does rule task"), "nothing")
        self.assertEqual(shell("take rule"), "refused does rule task")
        self.assertEqual([shell("undo"), shell("undo")], ["nothing", "nothing"])
        self.assertTrue(shell.desk()["rule"] == rule)
        self.assertEqual(shell("plays pool pool 1"), "yes")


class JoiningPointsTest(Case):
    def test_easier_tasks_and_other_pools(self):
        """5.2: a rule does easier tasks, replaced ones, on lesser pools and with more rounds."""
        drawn = Random(137)
        for pool in pair_pools():
            for task, easier in ((NEAR, NEAR.without_row((0, 1))), (AGREE, AGREE.without_row((1, 0)))):
                if not can_do(pool, task, 1):
                    continue
                rule = made_rule(pool, task, 1)
                self.assertTrue(easier.is_easier(task) and does(rule, easier))
                outputs = {output: drawn.randrange(100) for t in (0, 1) for output in task.outputs(t)}
                there = {rule[view] for view in rule}
                replaced = rule.replaced({output: outputs[output] for output in there})
                self.assertTrue(does(replaced, task.replaced(outputs)))
                lesser = pool.picked((drawn.randrange(len(pool)),))
                self.assertTrue(does(rule.for_pool(lesser), task))
                self.assertTrue(does(rule.lengthened(1, task), task))
                self.assertTrue(does(lesser_play(lesser, pool).carried(rule, task), task))

    def test_confusions_and_agreement(self):
        """8.4: what a plan tells decides agreement, for the machine of its rule as well."""
        for plan in PLANS[::6]:
            pool = plan_pool(plan)
            self.assertIs(can_agree(pool), tells(plan))
            if tells(plan):
                rule = plan_rule(plan)
                self.assertTrue(does(rule, AGREE))
                self.assertEqual(right_rounds(machine_of(rule), pool, AGREE), 1)
            else:
                group = confused_group(plan, confusion(plan))
                self.assertTrue(is_closed(pool, group) and not common_roots(pool, group))
                self.assertTrue(any(set(group) <= set(part) for part in splitting(pool)))

    def test_powers_and_plays(self):
        """9.1 to 9.3: tasks go from guests to hosts, with the product of the rounds."""
        drawn, played = Random(139), 0
        for host, guest in drawn_pools(260, 149):
            for rounds in (1, 2):
                if len(host) ** (2 * rounds) > 300:
                    continue
                try:
                    play = made_play(host, guest, rounds)
                except InvalidOperation:
                    refusal = play_refusal(host, guest, rounds)
                    self.assertTrue(is_play_refusal(host, guest, rounds, refusal))
                    continue
                self.assertIsNone(never_plays(host, guest))
                task = drawn.choice([agreement_task(host.size), near_task(host.size, 2)])
                for many in (0, 1, 2):
                    if can_do(guest, task, many):
                        self.assertTrue(does(play.carried(made_rule(guest, task, many), task), task))
                        self.assertTrue(can_do(host, task, rounds * many))
                        played += 1
                    one, other = near_limit(host, rounds * many), near_limit(guest, many)
                    self.assertTrue(one is None or (other is not None and one >= other))
            if len(host) ** 2 <= 80:
                power = power_pool(host, 2)
                self.assertIs(can_agree(power), can_agree(host))
                self.assertEqual(near_limit(power, 1), near_limit(host, 2))
                self.assertIsNone(never_plays(host, power))
            web = drawn.choice(all_webs(host.size))
            forgetting = forgetting_play(host, web)
            self.assertEqual(forgetting.guest.size, host.size)
            self.assertIsNone(never_plays(host, forgetting.guest))
            value = never_plays(host, guest)
            self.assertTrue(value is None or is_never(host, guest, value))
        self.assertGreater(played, 60)

    def test_machines_of_rules_and_back(self):
        """10.4 and 10.5: machines of rules do what the rules do; moves that are never met do not matter."""
        drawn = Random(151)
        for _ in range(60):
            size, rounds = drawn.choice((1, 2, 3)), drawn.randrange(3)
            pool = drawn_pool(drawn, size)
            task = drawn.choice([agreement_task(size), near_task(size, 2)])
            rows = tuple(sorted(drawn.sample(task.rows, drawn.randrange(1, len(task.rows) + 1))))
            some = task
            for row in task.rows:
                if row not in rows:
                    some = some.without_row(row)
            rule = Rule(pool, rounds, {view: drawn.randrange(2) for view in all_views(pool, rounds, rows)})
            if can_do(pool, some, rounds) and drawn.random() < 0.7:
                rule = made_rule(pool, some, rounds)
            machine = machine_of(rule)
            self.assertEqual(rule_of(machine, pool, rounds, rows), rule)
            if all(machine.can_begin(row) for row in rows):
                self.assertIs(is_right(machine, pool, some), does(rule, some))
            met = met_letters(machine, pool, rows)
            for letter in machine.moves:
                if letter not in met:
                    other = machine.with_move(letter, 0)
                    self.assertIsNone(parting_run(machine, other, pool, rows))
                    self.assertEqual(rule_of(other, pool, rounds, rows), rule)

    def test_certificates_or_faults(self):
        """10.8: right certificates or faults, and never both; no machine agrees where the pool cannot."""
        drawn, told = Random(157), [0, 0]
        for _ in range(150):
            pool = drawn_pool(drawn, drawn.choice((2, 2, 3)))
            task, machine = agreement_task(pool.size), drawn_machine(drawn, pool, states=3, deciding=0.4)
            if can_agree(pool) and least_rounds(pool) is not None and drawn.random() < 0.8:
                machine = machine_of(made_rule(pool, task, least_rounds(pool)))
                self.assertTrue(is_right(machine, pool, task))
            value = machine_certificate(machine, pool, task)
            self.assertTrue(is_machine_certificate(machine, pool, task, value))
            self.assertIs(is_machine_fault(machine, pool, task, value), value[0] != "right")
            self.assertIs(is_right(machine, pool, task), value[0] == "right")
            told[value[0] == "right"] += 1
            if not can_agree(pool):
                self.assertNotEqual(value[0], "right")
                fault = driven_fault(machine, pool, tuple(range(len(pool))))
                self.assertTrue(is_machine_fault(machine, pool, task, fault))
        self.assertGreater(min(told), 20)
