"""The helper of the searches: fits, the solver and refuting trees, against all ways to give outputs."""

from itertools import product
from random import Random
from unittest import TestCase
from unittest.mock import patch

from poolmaps.puzzles import solver as solving
from poolmaps.puzzles.fits import Fit, Puzzle, domain_of, is_single, outputs_of
from poolmaps.puzzles.growing import WAYS_TO_GROW, new_grower, nodes_of, refuting_nodes
from poolmaps.puzzles.joins import chosen_behind, joins_of, show_that_nothing_fits, telling_joins
from poolmaps.puzzles.solver import Solver, solved
from poolmaps.puzzles.trees import ask_once, refutes


def puzzle_of(menus, ties, groups=()):
    """The puzzle of ties that are told with the rows that fit."""
    return Puzzle(menus, [(bound, Fit(rows)) for bound, rows in ties], list(groups))


def drawn_puzzle(drawn, most=6):
    """A small puzzle, and its ties with the rows that fit."""
    places = drawn.randrange(1, most + 1)
    menus = [tuple(sorted(drawn.sample(range(5), drawn.randrange(1, 4)))) for _ in range(places)]
    ties = []
    for _ in range(drawn.randrange(0, 8)):
        bound = tuple(drawn.sample(range(places), drawn.randrange(1, min(3, places) + 1)))
        rows = list(product(*[menus[place] for place in bound]))
        ties.append((bound, sorted(drawn.sample(rows, drawn.randrange(1, len(rows) + 1)))))
    return menus, ties, puzzle_of(menus, ties)


def all_solutions(menus, ties):
    return [
        outputs for outputs in product(*menus)
        if all(tuple(outputs[place] for place in bound) in rows for bound, rows in ties)
    ]


def plain(nodes):
    """Told nodes, as the judge takes them."""
    return [node if node[0] == "ask" else ("stop", (node[1],)) for node in nodes]


class PuzzlesTest(TestCase):
    def test_domains(self):
        for outputs in ([], [0], [3], [0, 99], [1, 2, 50]):
            self.assertEqual(outputs_of(domain_of(outputs)), outputs)
            self.assertIs(is_single(domain_of(outputs)), len(outputs) < 2)

    def test_solver_and_trees(self):
        drawn = Random(31)
        refuted = 0
        for _ in range(900):
            menus, ties, puzzle = drawn_puzzle(drawn)
            domains = [domain_of(drawn.sample(menu, drawn.randrange(1, len(menu) + 1))) for menu in menus]
            solutions = all_solutions(menus, ties)
            within = [told for told in solutions if all(domains[at] >> part & 1 for at, part in enumerate(told))]
            for hints in ([0] * len(menus), [1 << drawn.choice(menu) for menu in menus]):
                told = solved(puzzle, domains, hints)
                self.assertEqual(told is not None, bool(within))
                self.assertTrue(told is None or tuple(told) in within)
            solver = Solver(puzzle, puzzle.full, [0] * len(menus))
            self.assertIs(solver.has_solution(), bool(solutions))
            if not solutions:
                refuted += 1
                for way in WAYS_TO_GROW:
                    nodes = nodes_of(new_grower(puzzle, solver.weights, *way).tree())
                    self.assertTrue(refutes(puzzle, plain(nodes)) and ask_once(plain(nodes)))
                    self.checks_tree(menus, ties, nodes)
                self.checks_tree(menus, ties, refuting_nodes(puzzle, solver.weights))
        self.assertGreater(refuted, 50)

    def test_greater_puzzles(self):
        drawn, rows = Random(109), list(product(range(3), repeat=3))
        told = [0, 0]
        for _ in range(60):
            places, menus = 14, [(0, 1, 2)] * 14
            ties = [(tuple(drawn.sample(range(places), 3)), sorted(drawn.sample(rows, 14))) for _ in range(23)]
            puzzle = puzzle_of(menus, ties)
            solver = Solver(puzzle, puzzle.full, [0] * places)
            if solver.has_solution():
                outputs = [outputs_of(domain) for domain in solver.domains]
                self.assertTrue(all(len(each) == 1 for each in outputs))
                for bound, fitting in ties:
                    self.assertIn(tuple(outputs[place][0] for place in bound), fitting)
                told[1] += 1
            else:
                nodes = nodes_of(new_grower(puzzle, solver.weights, *WAYS_TO_GROW[told[0] % 5]).tree())
                self.assertTrue(refutes(puzzle, plain(nodes)) and ask_once(plain(nodes)))
                told[0] += 1
        self.assertGreater(min(told), 10)

    def checks_tree(self, menus, ties, nodes):
        """Each way to give outputs leads to a stop at a tie that it breaks."""
        for outputs in product(*menus):
            at = 0
            while nodes[at][0] == "ask":
                at = dict(nodes[at][2])[outputs[nodes[at][1]]]
            bound, rows = ties[nodes[at][1]]
            self.assertNotIn(tuple(outputs[place] for place in bound), rows)

    def test_conflicts_lead_back_over_what_has_nothing_to_do_with_them(self):
        differ = [(a, b) for a in range(3) for b in range(3) if a != b]
        menus, ties = [], []
        for group in range(30):
            places = range(4 * group, 4 * group + 4)
            menus += [(0, 1, 2)] * 4
            ties += [((one, other), Fit(differ)) for one in places for other in places
                     if one < other and (group == 29 or (one, other) != (4 * group, 4 * group + 1))]
        puzzle = Puzzle(menus, ties, [])
        self.assertIsNone(solved(puzzle, puzzle.full, [0] * len(menus)))
        self.assertIsNotNone(solved(Puzzle(menus[:-4], ties[:-6], []), puzzle.full[:-4], [0] * (len(menus) - 4)))
        free = Fit(list(product(range(3), repeat=2)))
        chained = Puzzle(menus, [*ties, *[((at, at + 4), free) for at in range(116)]], [])
        self.assertIsNone(solved(chained, chained.full, [0] * len(menus)))


class JoinsTest(TestCase):
    def test_against_all_ways_to_give_outputs(self):
        drawn, told = Random(211), [0, 0]
        for _ in range(500):
            menus, ties, puzzle = drawn_puzzle(drawn)
            domains = [domain_of(drawn.sample(menu, drawn.randrange(1, len(menu) + 1))) for menu in menus]
            within = [
                outputs for outputs in product(*[outputs_of(domain) for domain in domains])
                if all(tuple(outputs[place] for place in bound) in rows for bound, rows in ties)
            ]
            joins = joins_of(puzzle, range(len(ties)), domains)
            bound = {place for places, _ in ties for place in places if not is_single(domains[place])}
            # Ties without an open place are left to looking ahead.
            closed = [all(is_single(domains[place]) for place in places) for places, _ in ties]
            if bound and not any(closed):
                told[bool(within)] += 1
                self.assertIs(show_that_nothing_fits(joins), not within)
            if within:
                chosen = chosen_behind(joins)
                self.assertEqual(set(chosen), bound)
                outputs = [chosen.get(place, domain.bit_length() - 1) for place, domain in enumerate(domains)]
                for places, rows in ties:
                    self.assertIn(tuple(outputs[place] for place in places), rows)
        self.assertGreater(min(told), 40)

    def test_joins_that_are_too_great_and_groups(self):
        all_pairs = [(one, other) for one in range(15) for other in range(one)]
        differ = [(one, other) for one in range(3) for other in range(3) if one != other]
        ties = [(pair, differ) for pair in all_pairs]
        few = [number for number, (pair, _) in enumerate(ties) if max(pair) < 4]
        for groups, told in (((), None), ((few[:3],), None), ((few[:3], few), True)):
            puzzle = puzzle_of([(0, 1, 2)] * 15, ties, groups)
            joins = telling_joins(puzzle, puzzle.all_ties, puzzle.full)
            self.assertEqual(None if joins is None else show_that_nothing_fits(joins), told)
        self.assertIsNone(joins_of(puzzle, puzzle.all_ties, puzzle.full))
        self.assertIs(show_that_nothing_fits(joins_of(puzzle, [], puzzle.full)), False)

    def test_searches_that_ask_joins(self):
        drawn, rows, told = Random(223), list(product(range(3), repeat=3)), [0, 0]
        with patch.object(solving, "PATIENCE", 1), patch.object(solving, "JOINING", 2):
            for _ in range(150):
                menus = [(0, 1, 2)] * 9
                ties = [(tuple(drawn.sample(range(9), 3)), sorted(drawn.sample(rows, 14))) for _ in range(14)]
                outputs = solved(puzzle_of(menus, ties), [7] * 9, [0] * 9)
                fitting = [ways for ways in product(range(3), repeat=9) if all(
                    tuple(ways[place] for place in bound) in each for bound, each in ties)]
                self.assertEqual(outputs is not None, bool(fitting))
                self.assertTrue(outputs is None or tuple(outputs) in fitting)
                told[bool(fitting)] += 1
        self.assertGreater(min(told), 10)
