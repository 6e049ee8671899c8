"""Runs of machines, met letters and parting runs, by walking all configurations."""

from itertools import product
from random import Random

from poolmaps.base.pools import Pool, pair_pool, snap_pool
from poolmaps.base.webs import Web, silent_web
from poolmaps.errors import (
    InvalidMachine, InvalidNumber, InvalidOperation, InvalidPool, InvalidRow, InvalidWord, NothingToUndo, TooMany,
)
from poolmaps.machines.machines import Machine
from poolmaps.machines.runs import MachineRun, met_letters, parting_run
from tests.engines import (
    FOLLOW, drawn_machine, letters_by_hand, reached_by_hand, round_by_hand, shown_by_hand, start_by_hand, trail_by_hand,
)
from tests.support import (
    SNAPS, WRONG, Case, is_int_tuple, marked_pools, not_numbers, not_pools, not_words, pair_pools, star_pool,
    wrong_where,
)
from tests.test_machines import are_rows, drawn_machines

POOLS = [*pair_pools(), *marked_pools()[:4], star_pool(3)]


def counting(base, size, last=None):
    """A machine whose threads count, each one on its own mark, the last one perhaps further."""
    bases = [base] * (size - 1) + [last or base]
    moves = {(t, s, 1, ()): (s + 1) % bases[t] for t in range(size) for s in range(bases[t])}
    return Machine(size, max(bases), {(t, entry): entry for t in range(size) for entry in (0, 1)}, moves, {})


def marking(size):
    """The pool of silent webs with the marks 0 and 1."""
    return Pool(tuple(Web(((),) * size, marks) for marks in product((0, 1), repeat=size)))


class MachineRunTest(Case):
    def checks(self, run, machine, pool, row, word):
        trail = trail_by_hand(machine, pool, row, word)
        shown = shown_by_hand(machine, trail[-1])
        self.assertEqual((run.machine, run.pool, run.row, run.word), (machine, pool, row, tuple(word)))
        self.assertEqual((run.configuration, run.shown, run.trail), (trail[-1], shown, tuple(trail)))
        self.assertEqual((len(run), list(run)), (len(word), trail))
        told = " ".join("none" if output is None else str(output) for output in shown)
        self.assertEqual(str(run), f"run of {len(word)} rounds: {told}")
        return shown

    def test_drawn_histories(self):
        drawn = Random(83)
        for pool, machine in drawn_machines(40, 81):
            row, word = tuple(drawn.randrange(2) for _ in range(pool.size)), []
            run = MachineRun(machine, pool, row)
            shown = self.checks(run, machine, pool, row, word)
            for _ in range(25):
                choice = drawn.randrange(6)
                if choice < 3:
                    word.append(drawn.randrange(len(pool)))
                    told = run.go(word[-1])
                    behind = self.checks(run, machine, pool, row, word)
                    self.assertEqual(told, tuple(t for t in range(pool.size) if shown[t] != behind[t]))
                elif choice == 3:
                    more = tuple(drawn.randrange(len(pool)) for _ in range(drawn.randrange(7)))
                    word += more
                    self.assertIs(run.play(more), run)
                elif choice == 4:
                    many = drawn.randrange(5)
                    if many > len(word):
                        self.fails_keeping(NothingToUndo, many, run.undo, many=many)
                    else:
                        gone = word[len(word) - many:]
                        word = word[:len(word) - many]
                        self.assertEqual(run.undo(many=many), tuple(reversed(gone)))
                else:
                    twin = run.twin()
                    self.assertTrue(twin == run)
                    self.assertEqual(twin.undo(many=len(word)), tuple(reversed(word)))
                    twin.play((0,))
                    self.assertIs(twin == run, word == [0])
                shown = self.checks(run, machine, pool, row, word)

    def test_errors_and_equality(self):
        pool = pair_pool("RLB")
        machines = (InvalidMachine, wrong_where(lambda value: type(value) is Machine))
        rows = (InvalidRow, wrong_where(
            lambda value: is_int_tuple(value) and len(value) == 2 and set(value) <= {0, 1}, (0, 2), (0, True)))
        self.checks_arguments(MachineRun, (FOLLOW, pool, (0, 1)), (machines, (InvalidPool, not_pools()), rows))
        self.fails(InvalidOperation, MachineRun, FOLLOW, snap_pool(3), (0, 1))
        self.fails(InvalidRow, MachineRun, FOLLOW, snap_pool(3), (0, 1, 0))
        run = MachineRun(FOLLOW, pool, (0, 1)).play((0, 1))
        for index in not_numbers(0, 2):
            self.fails_keeping(InvalidNumber, index, run.go, index)
        for word in not_words(pool):
            self.fails(InvalidWord, run.play, word)
        for many in not_numbers(0, 10 ** 60 - 1):
            self.fails_keeping(InvalidNumber, many, run.undo, many=many)
        self.fails_keeping(NothingToUndo, 3, run.undo, many=3)
        self.assertEqual((run.word, run.undo(many=0), run.undo()), ((0, 1), (), (1,)))
        others = [MachineRun(FOLLOW, pool, (0, 1)), MachineRun(FOLLOW, pair_pool("RL"), (0, 1)).play((0,)),
                  MachineRun(FOLLOW, pool, (1, 1)).play((0,)), MachineRun(FOLLOW.with_decision(0, 0, 1), pool, (0, 1)).play(
                      (0,)), *WRONG]
        for other in others:
            self.assertIs(run == other, False)
        self.assertTrue(run == MachineRun(FOLLOW, pair_pool("RLB"), (0, 1)).play((0,)))
        long = MachineRun(FOLLOW, pool, (0, 1))
        for _ in range(100):
            long.play((0, 1, 2))
        self.assertEqual((len(long), len(long.trail)), (300, 301))


class MetLettersTest(Case):
    def test_by_all_configurations(self):
        for pool, machine in drawn_machines(60, 87, POOLS):
            for rows in (((0,) * pool.size,), tuple(product((0, 1), repeat=pool.size))):
                met = set()
                for row in rows:
                    for configuration in reached_by_hand(machine, pool, row):
                        met |= {letter for web in pool for letter in letters_by_hand(configuration, web)}
                self.assertEqual(met_letters(machine, pool, rows), tuple(sorted(met)))

    def test_errors(self):
        pool, rows = pair_pool("RLB"), ((0, 1), (1, 1))
        self.checks_arguments(met_letters, (FOLLOW, pool, rows), (
            (InvalidMachine, wrong_where(lambda value: type(value) is Machine)), (InvalidPool, not_pools()),
            (InvalidOperation, wrong_where(are_rows, ((0, 2),), ((1, 1), (0, 1))))))
        self.fails(InvalidOperation, met_letters, FOLLOW, snap_pool(3), rows)
        rows = ((0,) * 4,)
        self.assertEqual(len(met_letters(counting(11, 4), marking(4), rows)), 4 * 11 * 2)
        self.fails_keeping(TooMany, 20000, met_letters, counting(12, 4), marking(4), rows)
        self.assertEqual(len(met_letters(counting(10, 4, 20), marking(4), rows)), 50 * 2)
        self.fails_keeping(TooMany, 20000, met_letters, counting(10, 4, 21), marking(4), rows)


class PartingRunTest(Case):
    def shortest(self, one, other, pool, rows):
        """The least number of rounds behind which the outputs can be unlike, by ever longer words."""
        told = {(start_by_hand(one, row), start_by_hand(other, row)) for row in rows}
        seen = set()
        rounds = 0
        while told - seen:
            if any(shown_by_hand(one, first) != shown_by_hand(other, second) for first, second in told):
                return rounds
            seen |= told
            told = {(round_by_hand(one, first, web), round_by_hand(other, second, web))
                    for first, second in told for web in pool}
            rounds += 1
        return None

    def test_drawn_machines(self):
        drawn, parted = Random(91), [0, 0]
        for _ in range(150):
            pool = drawn.choice(POOLS)
            one = drawn_machine(drawn, pool)
            if drawn.random() < 0.6:
                other = one
                for letter in drawn.sample(list(one.moves), min(2, len(one))):
                    other = other.with_move(letter, drawn.randrange(3))
                if drawn.random() < 0.3:
                    other = other.with_decision(0, drawn.randrange(3), 1)
            else:
                other = drawn_machine(drawn, pool, states=4)
            rows = tuple(sorted(drawn.sample(list(product((0, 1), repeat=pool.size)), 2)))
            told, least = parting_run(one, other, pool, rows), self.shortest(one, other, pool, rows)
            parted[told is None] += 1
            if told is None:
                self.assertIsNone(least)
            else:
                row, word = told
                self.assertIn(row, rows)
                self.assertEqual(len(word), least)
                ends = [trail_by_hand(machine, pool, row, word)[-1] for machine in (one, other)]
                self.assertNotEqual(shown_by_hand(one, ends[0]), shown_by_hand(other, ends[1]))
            unmet = [letter for letter in one.moves if letter not in met_letters(one, pool, rows)]
            less = one
            for letter in unmet:
                less = less.without_move(letter)
            self.assertIsNone(parting_run(one, less, pool, rows))
        self.assertGreater(min(parted), 10)

    def test_errors(self):
        pool, rows = pair_pool("RLB"), ((0, 1), (1, 1))
        machines = (InvalidMachine, wrong_where(lambda value: type(value) is Machine))
        self.checks_arguments(parting_run, (FOLLOW, FOLLOW, pool, rows), (
            machines, machines, (InvalidPool, not_pools()),
            (InvalidOperation, wrong_where(are_rows, ((0, 2),), ((1, 1), (0, 1))))))
        self.fails(InvalidOperation, parting_run, FOLLOW, FOLLOW, snap_pool(3), rows)
        self.fails(InvalidOperation, parting_run, FOLLOW, counting(2, 3), pool, rows)
        narrow = Machine(2, 1, {(0, 0): 0, (1, 0): 0}, {}, {})
        self.fails(InvalidOperation, parting_run, FOLLOW, narrow, pool, rows)
        self.fails(InvalidOperation, parting_run, narrow, FOLLOW, pool, rows)
        one, other = counting(10, 2), counting(11, 2)
        self.assertIsNone(parting_run(one, other, marking(2), ((0, 0),)))
        # More pairs than configurations are reached, and there are too many although the machines part at once.
        one, other = counting(12, 2), counting(13, 2)
        self.fails_keeping(TooMany, 20000, parting_run, one, other, marking(2), ((0, 0),))
        self.fails_keeping(TooMany, 20000, parting_run, one.with_decision(0, 0, 1), other, marking(2), ((0, 0),))
        self.assertEqual(len(met_letters(other, marking(2), ((0, 0),))), 2 * 13 * 2)
        self.assertEqual(parting_run(FOLLOW, FOLLOW.with_decision(1, 0, 0), SNAPS[2], rows), None)
        self.assertEqual(parting_run(counting(3, 1), counting(3, 1).with_decision(0, 2, 5),
                                     Pool((silent_web(1), silent_web(1).with_mark(0, 1))), ((0,), (1,))), ((1,), (1,)))
