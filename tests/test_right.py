"""Right machines: faults by going through their words, certificates row by row, right rounds by all runs."""

from itertools import product
from random import Random
from time import process_time

from poolmaps.base.pools import Pool, pair_pool, snap_pool
from poolmaps.errors import InvalidMachine, InvalidOperation, InvalidPool, InvalidTask, TooMany
from poolmaps.groups.closed import can_agree
from poolmaps.machines.machines import Machine, machine_of
from poolmaps.machines.right import (
    driven_fault, is_machine_certificate, is_machine_fault, is_right, machine_certificate, machine_fault, right_rounds,
)
from poolmaps.tasks.rules import Rule, does
from poolmaps.tasks.search import can_do, made_rule
from poolmaps.tasks.tasks import Task, agreement_task, near_task
from tests.engines import FOLLOW, drawn_machine, reached_by_hand, round_by_hand, shown_by_hand, trail_by_hand
from tests.support import (
    SNAPS, Case, is_int, is_int_tuple, marked_pools, near_values, not_pools, pair_pools, slow_run_views, star_pool,
    triple_pools, wrong_where,
)
from tests.test_runs import counting, marking

AGREE = agreement_task(2)
POOLS = [*pair_pools(), *marked_pools()[:3], star_pool(3)]


def slow_is_fault(machine, pool, task, value):
    """The three forms of faults, by their words."""
    if type(value) is not tuple or len(value) not in (3, 4) or type(value[0]) is not str:
        return False
    row, words = value[1], value[2:]
    if not is_int_tuple(row) or row not in task.table:
        return False
    if not all(is_int_tuple(word) and all(0 <= index < len(pool.webs) for index in word) for word in words):
        return False
    trail = trail_by_hand(machine, pool, row, words[0])
    shown = [shown_by_hand(machine, configuration) for configuration in trail]
    if value[0] == "changed" and len(words) == 1:
        return len(trail) > 1 and any(one is not None and one != two for one, two in zip(shown[-2], shown[-1]))
    if value[0] == "wrong" and len(words) == 1:
        return None not in shown[-1] and shown[-1] not in task.table[row]
    if value[0] == "endless" and len(words) == 2 and words[1]:
        return trail_by_hand(machine, pool, row, words[0] + words[1])[-1] == trail[-1] and None in shown[-1]
    return False


def slow_is_certificate(machine, pool, task, value):
    """The words of the document about right certificates, for each row and configuration."""
    if type(value) is not tuple or len(value) != 2 or type(value[0]) is not str or value[0] != "right":
        return False
    if type(value[1]) is not dict or not all(is_int_tuple(row) for row in value[1]) or set(value[1]) != set(task.table):
        return False
    for row, ranks in value[1].items():
        if type(ranks) is not dict or trail_by_hand(machine, pool, row, ())[0] not in ranks:
            return False
        for configuration, rank in ranks.items():
            if not is_int_tuple(configuration) or len(configuration) != machine.size:
                return False
            if not all(0 <= state < machine.states for state in configuration) or not is_int(rank) or rank < 0:
                return False
            if rank >= 10 ** 60:
                return False
        for configuration, rank in ranks.items():
            shown = shown_by_hand(machine, configuration)
            if (rank == 0) != (None not in shown) or (rank == 0 and shown not in task.table[row]):
                return False
            for web in pool:
                behind = round_by_hand(machine, configuration, web)
                if behind not in ranks or (rank > 0 and ranks[behind] >= rank):
                    return False
                if any(one is not None and one != two for one, two in zip(shown, shown_by_hand(machine, behind))):
                    return False
    return True


def rounds_by_hand(machine, pool, task):
    """The least number of rounds behind which all threads have outputs in all runs; None if a run goes on endlessly."""
    told = {trail_by_hand(machine, pool, row, ())[0] for row in task.rows}
    for rounds in range(500):
        if all(None not in shown_by_hand(machine, each) for each in told):
            return rounds
        told = {round_by_hand(machine, each, web) for each in told for web in pool}
    return None


def is_right_by_hand(machine, pool, task):
    """The three conditions, for all configurations that are reached."""
    for row in task.rows:
        for each in reached_by_hand(machine, pool, row):
            shown = shown_by_hand(machine, each)
            if None not in shown and shown not in task.table[row]:
                return False
            for web in pool:
                behind = shown_by_hand(machine, round_by_hand(machine, each, web))
                if any(one is not None and one != two for one, two in zip(shown, behind)):
                    return False
    return rounds_by_hand(machine, pool, task) is not None


def drawn_works(number, seed):
    """Drawn machines, some of them those of rules with some changes, with pools and tasks."""
    drawn, works = Random(seed), []
    ruled = [
        (pair_pool("RL"), AGREE, 1), (pair_pool("RB"), AGREE, 1), (SNAPS[2], near_task(2, 3), 1),
        (SNAPS[2], near_task(2, 2), 2), (pair_pool("B"), AGREE, 1), (star_pool(3), agreement_task(3), 1)]
    for at in range(number):
        if at % 3:
            pool, task, rounds = drawn.choice(ruled)
            machine = machine_of(made_rule(pool, task, rounds))
            for _ in range(drawn.randrange(3)):
                choice = drawn.randrange(4)
                if choice == 0 and len(machine) > 0:
                    machine = machine.with_move(drawn.choice(list(machine.moves)), drawn.randrange(machine.states))
                elif choice == 1 and len(machine) > 0:
                    machine = machine.without_move(drawn.choice(list(machine.moves)))
                elif choice == 2 and machine.decisions:
                    machine = machine.without_decision(*drawn.choice(list(machine.decisions)))
                else:
                    machine = machine.with_decision(drawn.randrange(pool.size), drawn.randrange(machine.states), 1)
        else:
            pool = drawn.choice(POOLS)
            task = drawn.choice([agreement_task(pool.size), near_task(pool.size, 1)])
            machine = drawn_machine(drawn, pool, deciding=drawn.choice((0.2, 0.7)))
        works.append((machine, pool, task))
    return works


WORKS = [(FOLLOW, pair_pool(letters), AGREE) for letters in ("R", "L", "RB", "B", "N", "RLB")] + drawn_works(240, 97)


class RightMachinesTest(Case):
    def test_faults_and_certificates(self):
        told = {}
        for work in WORKS:
            right = is_right_by_hand(*work)
            self.assertIs(is_right(*work), right)
            fault, certificate = machine_fault(*work), machine_certificate(*work)
            self.assertIs(is_machine_certificate(*work, certificate), True)
            kind = fault[0] if fault else "right"
            told[kind] = told.get(kind, 0) + 1
            if right:
                self.assertIsNone(fault)
                self.assertTrue(slow_is_certificate(*work, certificate))
                self.assertEqual(right_rounds(*work), rounds_by_hand(*work))
                ranks = certificate[1]
                self.assertEqual(list(ranks), list(work[2].rows))
                for row, each in ranks.items():
                    self.assertEqual(list(each), sorted(each))
                    self.assertEqual(set(each), reached_by_hand(work[0], work[1], row))
                    self.assertLessEqual(max(each.values()), 20000)
            else:
                self.assertTrue(slow_is_fault(*work, fault) and slow_is_fault(*work, certificate))
                self.assertIs(is_machine_fault(*work, fault), True)
                self.fails(InvalidOperation, right_rounds, *work)
        self.assertGreater(min(told.values()), 20)
        self.assertEqual(set(told), {"right", "changed", "wrong", "endless"})

    def test_judges_of_faults(self):
        drawn = Random(101)
        for work in WORKS[::3]:
            _, pool, task = work
            for _ in range(20):
                word = tuple(drawn.randrange(len(pool)) for _ in range(drawn.randrange(5)))
                ring = tuple(drawn.randrange(len(pool)) for _ in range(drawn.randrange(4)))
                for value in (("changed", drawn.choice(task.rows), word), ("wrong", drawn.choice(task.rows), word),
                              ("endless", drawn.choice(task.rows), word, ring)):
                    self.assertIs(is_machine_fault(*work, value), slow_is_fault(*work, value))
                    self.assertIs(is_machine_certificate(*work, value), slow_is_fault(*work, value))
        for work in WORKS[::17]:
            fault = machine_fault(*work)
            for value in near_values(fault) if fault else ():
                self.assertIs(is_machine_fault(*work, value), slow_is_fault(*work, value))
            self.judges(is_machine_fault, work)
            self.judges(is_machine_certificate, work)
        long = ("endless", (0, 0), (0,) * 1000, (0,) * 3000)
        self.assertIs(is_machine_fault(FOLLOW, pair_pool("L"), AGREE, long), True)

    def test_judges_of_certificates(self):
        near = 0
        for work in WORKS:
            certificate = machine_certificate(*work)
            if certificate[0] == "right" and sum(map(len, certificate[1].values())) < 16 and near < 8:
                near += 1
                for value in near_values(certificate):
                    self.assertIs(is_machine_certificate(*work, value), slow_is_certificate(*work, value))
        self.assertEqual(near, 8)
        work = (FOLLOW, pair_pool("RB"), AGREE)
        ranks = machine_certificate(*work)[1]
        for more in (1, 5, 10 ** 59, 10 ** 60 - 2, 10 ** 60):
            told = {row: {each: rank and rank + more for each, rank in one.items()} for row, one in ranks.items()}
            self.assertIs(is_machine_certificate(*work, ("right", told)), more < 10 ** 60 - 1)
        # More keys than are reached are right if what they tell is.
        told = {row: {**one, (2, 2) if row[0] == 0 else (3, 3): 0, (2 + row[0], 0): 7} for row, one in ranks.items()}
        self.assertIs(is_machine_certificate(*work, ("right", told)), slow_is_certificate(*work, ("right", told)))
        self.assertIs(is_machine_certificate(*work, ("right", told)), True)

    def test_certificates_of_machines_that_go_on(self):
        """Machines whose states only grow: each has ranks, which are right or not."""
        chain = Machine(1, 4, {(0, 0): 0}, {(0, s, 0, ()): s + 1 for s in range(3)}, {(0, 2): 5, (0, 3): 5})
        work = (chain, snap_pool(1), Task({(0,): ((5,),)}))
        self.assertEqual(machine_certificate(*work), ("right", {(0,): {(0,): 2, (1,): 1, (2,): 0, (3,): 0}}))
        for value in near_values(machine_certificate(*work)):
            self.assertIs(is_machine_certificate(*work, value), slow_is_certificate(*work, value))
        drawn, told = Random(109), [0, 0]
        for _ in range(600):
            pool = drawn.choice([snap_pool(1), pair_pool("N"), pair_pool("RL"), pair_pool("B")])
            machine = drawn_machine(drawn, pool, states=4, inputs=(0,), moving=0, deciding=0.6, outputs=(5, 5, 5, 6))
            for web in pool:
                for configuration in product(range(4), repeat=pool.size):
                    for letter in machine.letters(configuration, web):
                        if letter[1] < 3 and drawn.random() < 0.9:
                            machine = machine.with_move(letter, drawn.randrange(letter[1] + 1, 4))
            task = Task({(0,) * pool.size: ((5,) * pool.size, (6,) * pool.size)})
            ranks = {}
            for each in sorted(reached_by_hand(machine, pool, (0,) * pool.size), key=sum, reverse=True):
                behind = [ranks.get(round_by_hand(machine, each, web), 0) for web in pool]
                ranks[each] = 1 + max(behind) if None in shown_by_hand(machine, each) else 0
            for change in (None, *ranks):
                value = {each: rank + (each == change) for each, rank in ranks.items()}
                value = ("right", {(0,) * pool.size: value})
                right = slow_is_certificate(machine, pool, task, value)
                self.assertIs(is_machine_certificate(machine, pool, task, value), right)
                told[right] += 1
                if change is None:
                    self.assertIs(is_right(machine, pool, task), right)
                    if right:
                        self.assertEqual(machine_certificate(machine, pool, task), value)
        self.assertGreater(min(told), 50)

    def test_machines_of_rules(self):
        drawn = Random(103)
        for pool, task, rounds in [
            (pair_pool("RL"), AGREE, 1), (SNAPS[2], near_task(2, 3), 1), (SNAPS[2], near_task(2, 9), 2),
            (SNAPS[3], near_task(3, 2), 1), (star_pool(3), agreement_task(3), 2), (pair_pool("BN"), near_task(2, 1), 0),
        ]:
            rule = made_rule(pool, task, rounds)
            machine = machine_of(rule)
            self.assertTrue(is_right(machine, pool, task))
            self.assertEqual(right_rounds(machine, pool, task), rounds)
            for _ in range(4):
                other = rule.with_output(drawn.choice(rule.views), drawn.randrange(3))
                self.assertIs(is_right(machine_of(other), pool, task), does(other, task))

    def test_errors(self):
        pool = pair_pool("RB")
        machines = (InvalidMachine, wrong_where(lambda value: type(value) is Machine))
        pools, tasks = (InvalidPool, not_pools()), (InvalidTask, wrong_where(lambda value: type(value) is Task))
        for call in (is_right, right_rounds, machine_fault, machine_certificate):
            self.checks_arguments(call, (FOLLOW, pool, AGREE), (machines, pools, tasks))
        for call in (is_machine_fault, is_machine_certificate):
            self.checks_arguments(call, (FOLLOW, pool, AGREE, None), (machines, pools, tasks, None))
        for call, more in ((is_right, ()), (right_rounds, ()), (machine_fault, ()), (machine_certificate, ()),
                           (is_machine_fault, (None,)), (is_machine_certificate, (None,))):
            for other, task in ((snap_pool(3), AGREE), (pool, agreement_task(3)), (snap_pool(3), agreement_task(3)),
                                (pool, agreement_task(2, 3)), (pool, Task({(0, 5): ((0, 0),)}))):
                self.fails(InvalidOperation, call, FOLLOW, other, task, *more)

    def test_too_many(self):
        task, pool = agreement_task(4), marking(4)
        start = process_time()
        for call in (is_right, right_rounds, machine_fault, machine_certificate):
            self.fails_keeping(TooMany, 20000, call, counting(12, 4), pool, task)
            # Faults that are found at once do not matter, nor does the wrong order of outputs.
            self.fails_keeping(TooMany, 20000, call, counting(12, 4).with_decision(0, 0, 1), pool, task)
        self.fails(InvalidOperation, right_rounds, counting(3, 4), pool, task)
        for call in (is_machine_fault, is_machine_certificate):
            self.assertIs(call(counting(12, 4), pool, task, ("endless", (0,) * 4, (), (0,))), True)
            self.assertIs(call(counting(12, 4), pool, task, ("endless", (0,) * 4, (), (1,) * 12)), True)
            self.assertIs(call(counting(12, 4), pool, task, ("endless", (0,) * 4, (), (1,) * 11)), False)
        self.assertLess(process_time() - start, 25)


class DrivenFaultTest(Case):
    def test_words_of_the_told_webs(self):
        drawn, driven = Random(107), 0
        for _ in range(120):
            pool = drawn.choice([pair_pool("RLBN"), SNAPS[2], marked_pools()[1], *triple_pools(97, 3)[:20], SNAPS[3]])
            indices = tuple(sorted(drawn.sample(range(len(pool)), drawn.randrange(1, min(4, len(pool)) + 1))))
            machine, task = drawn_machine(drawn, pool, states=2), agreement_task(pool.size)
            if can_agree(pool.picked(indices)):
                self.fails(InvalidOperation, driven_fault, machine, pool, indices)
            else:
                fault = driven_fault(machine, pool, indices)
                self.assertTrue(slow_is_fault(machine, pool, task, fault))
                self.assertTrue(is_machine_fault(machine, pool, task, fault))
                self.assertTrue(all(index in indices for word in fault[2:] for index in word))
                driven += 1
        self.assertGreater(driven, 40)

    def test_pools_that_cannot_agree(self):
        for pool, rounds in ((SNAPS[2], 1), (SNAPS[2], 2)):
            rule = made_rule(pair_pool("RLB"), near_task(2, 3 ** rounds), rounds)
            self.assertEqual(rule.pool, pool)
            fault = driven_fault(machine_of(rule), pool, (0, 1, 2))
            self.assertTrue(slow_is_fault(machine_of(rule), pool, AGREE, fault))
        self.assertFalse(can_do(SNAPS[2], AGREE, 3))

    def test_errors(self):
        pool = pair_pool("RLB")
        machines = (InvalidMachine, wrong_where(lambda value: type(value) is Machine))
        indices = (InvalidOperation, wrong_where(
            lambda value: is_int_tuple(value) and value and list(value) == sorted(set(value)) and 0 <= value[0]
            and value[-1] < 3, (0, 0), (1, 0), (0, 3), (True, 2), [0, 1, 2], (2, 1, 0), (0, 2, 1), (0, 1, 1, 2), (-1, 0, 1)))
        self.checks_arguments(driven_fault, (FOLLOW, pool, (0, 1, 2)), (machines, (InvalidPool, not_pools()), indices))
        self.fails(InvalidOperation, driven_fault, FOLLOW, snap_pool(3), (0, 1, 2))
        self.fails(InvalidOperation, driven_fault, FOLLOW, pool, (0, 1))
        self.fails(InvalidOperation, driven_fault, Machine(2, 1, {(0, 0): 0, (1, 0): 0}, {}, {}), pool, (0, 1, 2))
        self.fails_keeping(TooMany, 20000, driven_fault, counting(12, 4), marking(4), tuple(range(16)))
        self.assertEqual(driven_fault(counting(12, 4), marking(4), (0, 1, 2))[0], "endless")

    def test_what_is_not_true(self):
        # Each thread takes over what it hears, and shows it behind the first round.
        pools = (pair_pool("R"), pair_pool("L"))
        machine = Machine(2, 4, {(0, 0): 0, (0, 1): 1, (1, 0): 0, (1, 1): 1}, {
            **{(0, old, 0, ((1, new),)): 2 + new for old in (0, 1) for new in (0, 1)},
            **{(1, old, 0, ((0, new),)): 2 + new for old in (0, 1) for new in (0, 1)},
            **{(t, old, 0, ()): 2 + old for t in (0, 1) for old in (0, 1)},
        }, {(t, 2 + new): new for t in (0, 1) for new in (0, 1)})
        both = Pool((*pools[0].webs, *pools[1].webs))
        self.assertEqual([is_right(machine, pool, AGREE) for pool in (*pools, both)], [True, True, True])
        more = machine.with_decision(0, 0, 0)
        self.assertEqual(machine_fault(more, pools[1], AGREE)[0], "changed")
        self.assertEqual(is_right(machine.without_move((0, 0, 0, ())), pools[0], AGREE), False)
        rule = Rule(SNAPS[2], 0, {view: 0 for views in slow_run_views(SNAPS[2], 0, AGREE.rows).values() for view in views})
        self.assertEqual(machine_fault(machine_of(rule), SNAPS[2], AGREE)[0], "wrong")
