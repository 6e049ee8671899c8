r"""The examples of the document, to the sign.

>>> RIGHT = Web(((), (0,)))
>>> LEFT = Web(((1,), ()))
>>> BOTH = Web(((1,), (0,)))
>>> SNAP = snap_pool(2)
>>> ENDS = pair_pool("RL")

Webs:

>>> [RIGHT.roots, RIGHT.signals, str(LEFT), RIGHT.joined(LEFT) == BOTH, silent_web(2).roots, chain_web(3, 1).heard, parting_web(((1,), (0, 2))).heard]
[(0,), (((0,), 0), ((0, 1), 0)), 'web of 2 threads: 0 hears 1', True, (), ((2,), (), (1,)), ((1, 2), (), (0, 1))]
>>> [chain_web(3, 0).then(chain_web(3, 0)).heard, (1, 0) in RIGHT, len(full_web(4)), RIGHT.is_within(BOTH), str(RIGHT.with_mark(1, 5)), Web(((), ()), (0, 0)) == silent_web(2)]
[((), (0,), (0, 1)), True, 12, True, 'web of 2 threads: 1 hears 0; marks 0 5', True]

Pools:

>>> [len(snap_pool(3)), [str(web) for web in snap_pool(2)], str(ENDS), pair_pool("BN")[1] == silent_web(2), star_pool(3).is_rooted, pair_pool("RN").is_rooted, ENDS.is_within(SNAP)]
[13, ['web of 2 threads: 1 hears 0', 'web of 2 threads: 0 hears 1', 'web of 2 threads: 0 hears 1, 1 hears 0'], 'pool of 2 webs of 2 threads', True, True, False, True]
>>> [ENDS.merged(SNAP) == pair_pool("RLB"), SNAP.index_of(BOTH), ENDS.renumbered((1, 0)).index_of(LEFT), SNAP.picked((2, 0)).webs == (BOTH, RIGHT), len(chain_pool(3)), Pool((RIGHT, RIGHT.with_mark(0, 7))).unmarked().webs == (RIGHT,)]
[True, 2, 0, True, 3, True]

What threads know:

>>> POOL = pair_pool("RLB")
>>> [known(POOL, (0,)), known(POOL, (0, 1)), known_by_everyone(POOL, (0,)), known_since(POOL, (0, 1), 0, 1), sight_numbers(POOL, 1), sight_counts(POOL, 2)]
[((0,), (0, 1)), ((0, 1), (0, 1)), (0,), 2, {(0,): (0, 0), (1,): (1, 1), (2,): (1, 0)}, (5, 5)]
>>> [view_of(POOL, ((5, 7), (0,)), 1), all_views(POOL, 0, ((0, 1),)), same_sight(POOL, 0, (1,), (2,)), is_difference(POOL, 1, (1,), (2,), (1,)), lots_of(POOL, 1)]
[(1, 0, ((0, 5), (1, 7))), ((0, 0, ((0, 0),)), (1, 0, ((1, 1),))), True, True, (((0,), (1,), (2,)),)]
>>> EVENT = ((0,), (2,))
>>> [is_lot_way(POOL, (0,), (1,), ((1, (2,)), (0, (1,)))), knows(POOL, 1, EVENT, 1), all_know(POOL, 1, EVENT), level(POOL, 1, EVENT, (0,)), level(POOL, 1, EVENT, (1,)), commonly_known(POOL, 1, EVENT)]
[True, ((0,), (2,)), ((0,),), 1, -1, ()]
>>> story = Story(POOL)
>>> [story.go(0), story.possible(1), story.go(2), str(story), story.undo(many=2), bool(story), story.redo()]
[((0,), (0, 1)), ((0,), (2,)), ((0, 1), (0, 1)), 'story of 2 rounds: 0 2', ((0,), (1,)), False, ((0,), (0, 1))]

Groups of webs and agreement:

>>> POOL, PAIR = pair_pool("RLB"), pair_pool("RL")
>>> [alike(POOL, 0, 2, 1), alike(POOL, 0, 1, 2), links_in(POOL, (0, 1, 2)), is_linked_way(POOL, (0, 1, 2), 0, 1, ((1, 2), (0, 1))), splitting(POOL), splitting(PAIR)]
[True, False, ((0, 2, 1), (1, 2, 0)), True, ((0, 1, 2),), ((0,), (1,))]
>>> [can_agree(POOL), is_obstacle(POOL, (0, 1, 2)), can_agree(PAIR), is_agreement_certificate(PAIR, ((((0, 1),), ((0,), (1,))), (0, 1))), common_roots(POOL, (0, 2))]
[False, True, True, True, (0,)]
>>> [agree_in(PAIR, 0), agree_in(PAIR, 1), heralds(PAIR, 1), is_bar(PAIR, 0, ((), ())), is_bar(POOL, 1, ((0,), ((1, (2,)), (0, (1,))))), least_rounds(PAIR), least_rounds(POOL)]
[False, True, (0, 1), True, True, 1, None]
>>> sieve = Sieve(POOL)
>>> [sieve.verdict, sieve.take_out(2), sieve.groups, str(sieve), sieve.undo(), len(fewest_out(POOL)), is_fewest_out(POOL, (2,)), is_fewest_out(POOL, (0, 1))]
[False, True, ((0,), (1,)), 'sieve of 2 of 3 webs: yes', False, 1, True, False]

Near agreement:

>>> PATH = pair_pool("RLB")
>>> [near_limit(PATH, 0), near_limit(PATH, 1), near_limit(PATH, 2), near_limit(pair_pool("RL"), 1), near_limit(snap_pool(3), 1), near_limit(pair_pool("BN"), 3), near_least(PATH, 4)]
[1, 3, 9, None, 2, 1, 2]
>>> is_near_chain(PATH, 1, (((0, 1), (0,), 0, 1), ((0, 1), (2,), 1, 0), ((0, 1), (1,), 0, 1)))
True
>>> [near_ever(PATH), rootless(pair_pool("BN")), middle_rounds(3, 5), middle_rounds(1, 9), is_near_chain(PATH, 0, (((0, 1), (), 0, 1),))]
[True, 1, 6, 0, True]
>>> middles = Middles(PATH, (0, 1))
>>> [middles.fractions, middles.go(0), middles.spread, middles.go(2), str(middles), middles.floors(4), middles.undo(), middles.blocks]
[((0, 0), (1, 0)), ((0, 0), (1, 1)), (1, 1), ((1, 2), (1, 2)), '2 rounds: 1/4, 1/4', (1, 1), ((0, 0), (1, 1)), 1]

Tasks and rules:

>>> [len(agreement_task(2)), agreement_task(2)[(0, 1)], choice_task(3, 2).outputs(1), near_task(2, 2)[(0, 0)], str(agreement_task(3))]
[4, ((0, 0), (1, 1)), (0, 1, 2), ((0, 0),), 'task of 3 threads, 8 rows']
>>> KEEP = Rule(ENDS, 0, {(0, 0, ((0, 0),)): 0, (0, 0, ((0, 1),)): 1, (1, 0, ((1, 0),)): 0, (1, 0, ((1, 1),)): 1})
>>> [KEEP.outcome((0, 1), ()), does(KEEP, near_task(2, 1)), does(KEEP, agreement_task(2)), is_fault(KEEP, agreement_task(2), ((1, 0), ())), str(KEEP)]
[(0, 1), True, False, True, 'rule of 4 views, 0 rounds']
>>> [can_do(ENDS, agreement_task(2), 1), can_do(SNAP, agreement_task(2), 1), least_for(SNAP, near_task(2, 3)), can_do(ENDS, agreement_task(2), 0)]
[True, False, 1, False]
>>> ASK = (("ask", (0, 0, ((0, 0),)), ((0, 1), (1, 2))), ("ask", (1, 0, ((1, 1),)), ((0, 3), (1, 4))), ("stop", (0, 0), ()), ("stop", (1, 1), ()), ("stop", (0, 1), ()))
>>> [is_refusal(ENDS, agreement_task(2), 0, ASK), is_refusal(ENDS, agreement_task(2), 0, ASK[:4])]
[True, False]

Tasks of two threads:

>>> AGREE = agreement_task(2)
>>> NEAR = near_task(2, 3)
>>> [pair_kind(pair_pool("RLB")), pair_kind(pair_pool("BN")), least_ever(pair_pool("RLB"), AGREE), least_ever(pair_pool("RL"), AGREE), least_ever(pair_pool("RLB"), NEAR), can_ever(pair_pool("N"), NEAR)]
['path', 'silent', None, 1, 1, False]
>>> [row_parts(AGREE, (0, 1)), way_length(NEAR, (0, 1), 0, 3), way_length(AGREE, (0, 1), 0, 1), shortest_way(NEAR, (0, 1), 0, 1), is_way(NEAR, (0, 1), 0, 3, ((0, 1), (2, 1), (2, 3)))]
[(((0,), (0,)), ((1,), (1,))), 3, None, ((0, 1),), True]
>>> is_pair_refusal(pair_pool("RLB"), AGREE, (("ask", 0, 0, ((0, 1), (1, 2))), ("ask", 1, 1, ((0, 3), (1, 4))), ("stop", (0, 0)), ("stop", (1, 1)), ("stop", (0, 1))))
True
>>> choosing = Choosing(pair_pool("RLB"), NEAR, rounds=0)
>>> [choosing.choices(0, 0), choosing.give(0, 0, 0), choosing.give(1, 1, 3), choosing.undo(), str(choosing), choosing.lacking]
[(0, 1, 2, 3), None, (0, 1), None, '1 of 4 chosen', ((0, 1), (1, 0), (1, 1))]

Signs, rainbows, names by order:

>>> [blocks_of(snap_pool(2)[2]), web_sign(snap_pool(2)[2]), word_sign(2, (0, 2)), is_hidden(2, (0,), 1), partner_word(2, (0,), 0), partner_word(2, (0,), 1), is_partner_way(2, ((0,), (2,), (1,)))]
[((0, 1),), -1, -1, True, (2,), None, True]
>>> choice = Choice(2, 1, {(0, 0): 0, (0, 1): 1, (1, 0): 0, (1, 1): 1})
>>> [choice.picked_by((0,)), choice.picked_by((2,)), rainbows(choice), rainbow_total(choice), picked_numbers(choice), str(choice)]
[(0, 0), (1, 0), ((2,),), 1, (1, 2), 'choice of 2 threads, 1 rounds: 4 sights']
>>> ranks = rank_rule(2)
>>> [list(patterns(2, 1)) == list(ranks.names), ranks.names_in(2, (0,)), is_unlike(ranks), triangle(ranks, (2, 3)), is_barred(2, 2), barring_group(4, 6), is_barred(6, 10)]
[True, (1, 3), True, ((1,), (1, 0), (0, 1, -1)), True, 3, False]
>>> [as_rule(ranks, ((4, 7), (7, 4))).outcome((7, 4), (0,)), clash(ranks.mapped({1: 1, 2: 2, 3: 2})), str(ranks)]
[(1, 2), (2, (2,), (0, 1)), 'order rule of 2 threads, 1 rounds: names to 3']

Objects that two threads share:

>>> [flag_kind().table, swap_kind(1).table == sticky_kind(1).table, cell_kind(2).table[1], str(flag_kind() * adder_kind(3))]
[(((1, 0),), ((1, 1),)), False, ((0, 0), (1, 0), (1, 1)), 'kind of 6 states, 2 operations']
>>> [adder_kind(3).after(2, (0, 0)), sticky_kind(2).after(0, (1, 0)), cell_kind(2).states_from(1), (0, 1) in flag_kind()]
[(1, (2, 0)), (2, (2, 2)), (0, 1), False]
>>> flag, cell = Plan(flag_kind(), 0, 0, 0), Plan(cell_kind(2), 0, 0, 1)
>>> [flag.seen(0, (0, 1)), flag.seen(0, (1, 0)), tells(flag), confusion(flag), is_confusion(cell, (0, (0,))), telling_plans(flag_kind()), telling_plans(cell_kind(2))]
[(0, 1), (1, 1), True, None, True, ((0, 0, 0),), ()]
>>> plan_pool(flag) == Pool((Web(((), (0,)), (1, 101)), Web(((1,), (0,)), (1, 101)), Web(((1,), (0,)), (101, 1)), Web(((1,), ()), (101, 1))))
True
>>> [first_done(flag, 1, ((0, 1), 101)), plan_pool(flag).webs[0] == plan_web(flag, (0, 0, 0, 1, 1, 1)), len(interleavings()), confused_group(cell, (0, (0,))), len(plan_pool(cell))]
[0, True, 20, (0, 1, 3, 4), 5]
>>> course = Course(flag)
>>> [course.move(1), course.move(1), course.move(0), course.move(0), course.state, course.move(1), course.undo(), course.move(0), course.answers]
[None, 0, None, 1, 1, ((0, 1), 1), 4, ((0, 1), 101), (1, 0)]

Plays:

>>> [len(power_pool(SNAP, 1)), len(power_pool(SNAP, 2)), power_pool(ENDS, 2)[0].signals, power_word(SNAP, 2, (0, 1, 2, 2)), power_pool(SNAP, 0) == Pool((silent_web(2),)), power_pool(pair_pool("B"), 3) == Pool((BOTH,))]
[3, 9, (((0,), 0), ((0, 1), 0)), (1, 8), True, True]
>>> [made_play(SNAP, pair_pool("RLB"), 1).word_of((0, 2)), lesser_play(ENDS, SNAP).word_of((0, 1)), never_plays(SNAP, ENDS)[0], never_plays(pair_pool("L"), pair_pool("R")), never_plays(pair_pool("BN"), ENDS)[0] in ("agree", "roots")]
[(0, 2), (0, 1), 'agree', ('hear', 1, 0, 0), True]
>>> [str(power_play(ENDS, 2)), same_play(SNAP).then(same_play(SNAP)) == same_play(SNAP), is_play(pair_pool("B"), pair_pool("R"), 1, ({0: ((0,), 0)}, {0: ((0, 1), 0)})), forgetting_play(SNAP, RIGHT).guest.webs == (RIGHT, silent_web(2))]
['play of 4 webs in 2 webs, 2 rounds', True, True, True]

Machines:

>>> STARTS = {(0, 0): 2, (0, 1): 3, (1, 0): 0, (1, 1): 1}
>>> MOVES = {(1, old, 0, ((0, new),)): new for old in (0, 1) for new in (2, 3)}
>>> FOLLOW = Machine(2, 4, STARTS, MOVES, {(0, 2): 0, (0, 3): 1, (1, 2): 0, (1, 3): 1})
>>> [FOLLOW.beginning((1, 0)), FOLLOW.round_of((3, 0), pair_pool("R")[0]), FOLLOW.shown_at((3, 0)), str(FOLLOW)]
[(3, 0), (3, 3), (1, None), 'machine of 2 threads, 4 states, 4 moves']
>>> run = MachineRun(FOLLOW, pair_pool("R"), (1, 0))
>>> [str(run), run.go(0), run.shown, run.undo(), len(run), FOLLOW((0, 1), pair_pool("R"), (0, 0))]
['run of 0 rounds: 1 none', (1,), (1, 1), (0,), 0, (2, 2)]
>>> both = agreement_task(2)
>>> [is_right(FOLLOW, pair_pool("RB"), both), right_rounds(FOLLOW, pair_pool("RB"), both), machine_fault(FOLLOW, pair_pool("L"), both)[0]]
[True, 1, 'endless']
>>> [is_machine_fault(FOLLOW, pair_pool("L"), both, ("endless", (0, 0), (), (0,))), len(met_letters(FOLLOW, pair_pool("R"), ((0, 0), (1, 1))))]
[True, 6]

A desk, texts and a shell:

>>> desk = Desk()
>>> [desk.put("two", pair_pool("RL")), desk.put("snap", snap_pool(2)), desk.demand(("within", "two", "snap")), desk.demand(("agrees", "two")), str(desk)]
[(('two', 'agrees'),), (('snap', 'never'),), (), (), 'desk of 2 entries, 2 claims']
>>> desk.revise("two", lambda pool: pool.with_web(full_web(2)))
Traceback (most recent call last):
    ...
poolmaps.errors.Refused: ...
>>> [desk.waive(("agrees", "two")), desk.revise("two", lambda pool: pool.with_web(full_web(2))), desk.undo(many=2), desk.told]
[(), (('two', 'never'),), (('two', 'agrees'),), {'snap': 'never', 'two': 'agrees'}]
>>> [write_pool(pair_pool("RLB")), read_pool("- 0 | 1 -") == pair_pool("RL"), write_word(()), write_web(full_web(2).with_mark(0, 7))]
['- 0 | 1 - | 1 0', True, '-', '1:7 0']
>>> [write_task(Task({(0, 1): ((0, 0), (1, 1))})), read_claim("near two 1 3"), write_tree((("ask", (0, 0, ((0, 1),)), ((0, 1),)), ("stop", (1, 1), ())))]
['0 1 = 0 0 , 1 1', ('near', 'two', 1, 3), 'ask 0 0 0=1 > 0:1 ; stop 1 1 | -']
>>> [write_rule(Rule(ENDS, 0, {(0, 0, ((0, 0),)): 7, (1, 0, ((1, 3),)): 8})), write_rule(Rule(ENDS, 1, {}))]
['0 ; 0 0 0=0 > 7 ; 1 0 1=3 > 8', '1']
>>> shell = Shell()
>>> [shell("pool two - 0 | 1 -"), shell("snap snap 2"), shell("agreement same 2"), shell("can two same 1"), shell("can snap same 1"), shell("rounds two"), shell("limit snap 1")]
['two agrees', 'snap never', 'same 4', 'yes', 'no', '1', '3']
>>> [shell("demand can two same 1"), shell("pool two - 0 | 1 - | 1 0"), shell("told"), shell("show two"), shell("take two"), shell("lots snap 1"), shell("plays two snap 1"), len(shell)]
['nothing', 'refused can two same 1', 'same 4; snap never; two agrees', '- 0 | 1 -', 'refused can two same 1', '1', 'yes', 12]
"""

import doctest
import sys
from importlib import import_module
from unittest import TestCase

MODULES = (
    "base.webs", "base.pools", "known.words", "known.sights", "known.lots", "known.common", "known.stories",
    "groups.links", "groups.closed", "groups.bars", "groups.sieves", "near.limits", "near.middles", "tasks.tasks",
    "tasks.rules", "tasks.search", "pairs.graphs", "pairs.ever", "counts.signs", "counts.rainbows", "counts.names",
    "objects.kinds", "objects.plans", "objects.courses", "plays.powers", "plays.plays",
    "machines.machines", "machines.runs", "machines.right", "desk.desk", "text.texts", "text.shell",
)


class ExamplesTest(TestCase):
    def test_examples(self):
        names = {}
        for name in MODULES:
            names.update(vars(import_module("poolmaps." + name)))
        told = doctest.testmod(sys.modules[__name__], extraglobs=names, optionflags=doctest.ELLIPSIS)
        self.assertEqual((told.failed, told.attempted > 75), (0, True))
