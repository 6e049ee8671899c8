"""The interface: its names, arguments and defaults, each defined where it is listed; and what nothing changes."""

import inspect
from copy import deepcopy
from importlib import import_module
from unittest import TestCase

from poolmaps.base.pools import Pool, pair_pool, snap_pool
from poolmaps.base.webs import Web
from poolmaps.counts import names, rainbows, signs
from poolmaps.groups import bars, closed, links, sieves
from poolmaps.known import common, lots, sights, stories, words
from poolmaps.machines import machines, right, runs
from poolmaps.near import limits, middles
from poolmaps.objects import kinds, plans
from poolmaps.pairs import ever, graphs
from poolmaps.plays import plays, powers
from poolmaps.tasks import rules, search
from poolmaps.tasks.tasks import Task, agreement_task, near_task
from poolmaps.text import texts

FUNCTIONS = {
    "base.webs": "silent_web(size) full_web(size) star_web(size,center) chain_web(size,first) parting_web(blocks)",
    "base.pools": "snap_pool(size) star_pool(size) chain_pool(size) pair_pool(letters)",
    "known.words": """is_word(pool,value) all_words(pool,rounds) count_words(pool,rounds) known(pool,word)
        known_by_everyone(pool,word) known_since(pool,word,thread,other)""",
    "known.sights": """sight_numbers(pool,rounds) sight_counts(pool,rounds) same_sight(pool,thread,one,other)
        difference(pool,thread,one,other) is_difference(pool,thread,one,other,value) view_of(pool,run,thread)
        views_of(pool,run) all_views(pool,rounds,rows)""",
    "known.lots": """lots_of(pool,rounds) lot_of(pool,word) lot_way(pool,one,other)
        is_lot_way(pool,one,other,value)""",
    "known.common": """knows(pool,rounds,event,thread) all_know(pool,rounds,event,times=1)
        commonly_known(pool,rounds,event) level(pool,rounds,event,word)""",
    "groups.links": """alike(pool,one,other,third) links_in(pool,group) is_link(pool,group,value)
        linked_way(pool,group,one,other) is_linked_way(pool,group,one,other,value) parts_of(pool,group)""",
    "groups.closed": """common_roots(pool,group) is_closed(pool,value) splitting(pool) splitting_steps(pool)
        can_agree(pool) obstacle(pool) is_obstacle(pool,value) agreement_certificate(pool)
        is_agreement_certificate(pool,value)""",
    "groups.bars": """agree_in(pool,rounds) heralds(pool,rounds) are_heralds(pool,rounds,value) bar(pool,rounds)
        is_bar(pool,rounds,value) least_rounds(pool,*,most=3)""",
    "groups.sieves": "fewest_out(pool) is_fewest_out(pool,value)",
    "near.limits": """near_limit(pool,rounds) near_chain(pool,rounds) is_near_chain(pool,rounds,value)
        near_distances(pool,rounds) near_map(pool,rounds,most) is_near_map(pool,rounds,most,value)
        near_least(pool,most,*,up_to=3)""",
    "near.middles": """rootless(pool) near_ever(pool) middle_rounds(size,most) middle_map(pool,rounds,most)""",
    "tasks.tasks": "agreement_task(size,values=2) near_task(size,most) choice_task(size,many)",
    "tasks.rules": "does(rule,task) found_fault(rule,task) is_fault(rule,task,value)",
    "tasks.search": """can_do(pool,task,rounds) made_rule(pool,task,rounds) refusal(pool,task,rounds)
        is_refusal(pool,task,rounds,value) least_for(pool,task,*,most=3)""",
    "pairs.graphs": """row_parts(task,row) way_length(task,row,one,other) shortest_way(task,row,one,other)
        is_way(task,row,one,other,value)""",
    "pairs.ever": """pair_kind(pool) can_ever(pool,task) least_ever(pool,task) pair_certificate(pool,task)
        is_pair_certificate(pool,task,value) pair_refusal(pool,task,*,rounds=None)
        is_pair_refusal(pool,task,value,*,rounds=None) pair_rule(pool,task,rounds)""",
    "counts.signs": """blocks_of(web) web_sign(web) word_sign(size,word) is_hidden(size,word,thread)
        partner_word(size,word,thread) partner_way(size,one,other) is_partner_way(size,value)""",
    "counts.rainbows": """rainbows(choice) rainbow(choice) is_rainbow(choice,value) rainbow_total(choice)
        picked_numbers(choice) choice_of(rule)""",
    "counts.names": """pattern_of(size,word,thread) patterns(size,rounds) rank_rule(size) is_unlike(rule) clash(rule)
        is_clash(rule,value) as_rule(rule,rows) names_task(size,names,inputs) triangle(rule,group)
        is_barred(size,names) barring_group(size,names)""",
    "objects.kinds": "flag_kind() adder_kind(states) swap_kind(values) cell_kind(values) sticky_kind(values)",
    "objects.plans": """interleavings() plan_web(plan,steps) plan_pool(plan) tells(plan) confusion(plan)
        is_confusion(plan,value) confused_group(plan,value) first_done(plan,thread,signal) plan_rule(plan,*,values=2)
        telling_plans(kind)""",
    "plays.powers": "power_pool(pool,rounds) power_word(pool,rounds,word)",
    "plays.plays": """is_play(host,guest,rounds,value) same_play(pool) lesser_play(host,guest) forgetting_play(pool,web)
        power_play(pool,rounds) made_play(host,guest,rounds) play_refusal(host,guest,rounds)
        is_play_refusal(host,guest,rounds,value) never_plays(host,guest) is_never(host,guest,value)""",
    "machines.machines": "machine_of(rule) rule_of(machine,pool,rounds,rows)",
    "machines.runs": "met_letters(machine,pool,rows) parting_run(one,other,pool,rows)",
    "machines.right": """is_right(machine,pool,task) right_rounds(machine,pool,task) machine_fault(machine,pool,task)
        is_machine_fault(machine,pool,task,value) machine_certificate(machine,pool,task)
        is_machine_certificate(machine,pool,task,value) driven_fault(machine,pool,indices)""",
    "text.texts": """write_web(web) write_pool(pool) write_word(word) write_task(task) write_rule(rule) write_tree(tree)
        write_claim(claim) read_web(text) read_pool(text) read_word(text) read_task(text) read_tree(text)
        read_claim(text) read_rule(pool,text)""",
}
METHODS = {
    ("base.webs", "Web"): """__init__(self,heard,marks=None) signal(self,thread) hears(self,thread)
        reached(self,thread) with_hearing(self,thread,other) without_hearing(self,thread,other)
        with_mark(self,thread,mark) unmarked(self) joined(self,other) shared(self,other) then(self,other)
        is_within(self,other) renumbered(self,numbers)""",
    ("base.pools", "Pool"): """__init__(self,webs) index_of(self,web) picked(self,indices) with_web(self,web)
        without_web(self,index) unmarked(self) renumbered(self,numbers) merged(self,other) is_within(self,other)""",
    ("known.stories", "Story"): """__init__(self,pool) go(self,index) undo(self,*,many=1) redo(self,*,many=1)
        possible(self,thread) twin(self)""",
    ("groups.sieves", "Sieve"): """__init__(self,pool) take_out(self,index) put_back(self,index)
        undo(self,*,many=1) twin(self)""",
    ("near.middles", "Middles"): """__init__(self,pool,row,*,block=1) go(self,index) undo(self,*,many=1)
        twin(self) floors(self,most)""",
    ("tasks.tasks", "Task"): """__init__(self,table) outputs(self,thread) with_row(self,row,rights)
        without_row(self,row) is_easier(self,other) replaced(self,outputs) renumbered(self,numbers)""",
    ("tasks.rules", "Rule"): """__init__(self,pool,rounds,outputs) outcome(self,row,word)
        lengthened(self,more,task) for_pool(self,pool) replaced(self,outputs) with_output(self,view,output)""",
    ("tasks.search", "Chooser"): """__init__(self,pool,task,rounds) choose(self,view,output) options(self,view)
        undo(self,*,many=1) rule(self) twin(self)""",
    ("pairs.ever", "Choosing"): """__init__(self,pool,task,*,rounds=None) choices(self,thread,entry)
        give(self,thread,entry,output) undo(self,*,many=1) twin(self)""",
    ("counts.rainbows", "Choice"): """__init__(self,size,rounds,picks) picked_by(self,word)
        with_pick(self,thread,number,picked)""",
    ("counts.names", "OrderRule"): """__init__(self,size,rounds,names) names_in(self,many,word) mapped(self,table)
        for_fewer(self,size)""",
    ("objects.kinds", "Kind"): """__init__(self,table) step(self,state,operation) after(self,state,operations)
        states_from(self,state) relabeled(self,states,operations)""",
    ("objects.plans", "Plan"): "__init__(self,kind,start,first,second) seen(self,thread,order) turned(self)",
    ("objects.courses", "Course"): "__init__(self,plan) move(self,thread) undo(self,*,many=1) web(self) twin(self)",
    ("plays.plays", "Play"): """__init__(self,host,guest,rounds,maps) signal_for(self,thread,number)
        word_of(self,word) then(self,other) carried(self,rule,task)""",
    ("machines.machines", "Machine"): """__init__(self,size,states,starts,moves,decisions) beginning(self,row)
        round_of(self,configuration,web) letters(self,configuration,web) shown_at(self,configuration)
        with_move(self,letter,state) without_move(self,letter) with_decision(self,thread,state,output)
        without_decision(self,thread,state) renumbered(self,numbers) __call__(self,row,pool,word)""",
    ("machines.runs", "MachineRun"): """__init__(self,machine,pool,row) go(self,index) play(self,word)
        undo(self,*,many=1) twin(self)""",
    ("desk.desk", "Desk"): """__init__(self) put(self,name,value) take(self,name) revise(self,name,change)
        demand(self,claim) waive(self,claim) undo(self,*,many=1) redo(self,*,many=1) during(self,call) twin(self)""",
    ("text.shell", "Shell"): "__init__(self) answer(self,line) __call__(self,line) desk(self)",
}
SIGNS = {
    "Web": ("__contains__", "__len__", "__eq__", "__str__"),
    "Pool": ("__getitem__", "__contains__", "__iter__", "__len__", "__eq__", "__str__"),
    "Story": ("__len__", "__bool__", "__eq__", "__str__"),
    "Sieve": ("__contains__", "__iter__", "__len__", "__bool__", "__eq__", "__str__"),
    "Middles": ("__len__", "__eq__", "__str__"),
    "Task": ("__getitem__", "__contains__", "__iter__", "__len__", "__and__", "__eq__", "__str__"),
    "Rule": ("__getitem__", "__contains__", "__iter__", "__len__", "__eq__", "__str__"),
    "Chooser": ("__len__", "__eq__", "__str__"),
    "Choosing": ("__len__", "__eq__", "__str__"),
    "Choice": ("__len__", "__eq__", "__str__"),
    "OrderRule": ("__len__", "__eq__", "__str__"),
    "Kind": ("__mul__", "__contains__", "__len__", "__eq__", "__str__"),
    "Plan": ("__eq__", "__str__"),
    "Course": ("__len__", "__eq__", "__str__"),
    "Play": ("__eq__", "__str__"),
    "Machine": ("__contains__", "__len__", "__eq__", "__str__"),
    "MachineRun": ("__iter__", "__len__", "__eq__", "__str__"),
    "Desk": ("__getitem__", "__contains__", "__iter__", "__len__", "__eq__", "__str__"),
    "Shell": ("__len__",),
}
PROPERTIES = {
    "Web": ("heard", "marks", "size", "signals", "roots", "is_marked"),
    "Pool": ("webs", "size", "is_marked", "is_rooted"),
    "Story": ("word", "pool", "knowing"),
    "Sieve": ("pool", "indices", "groups", "verdict"),
    "Middles": ("fractions", "word", "blocks", "spread", "block"),
    "Task": ("size", "rows", "table"),
    "Rule": ("pool", "rounds", "views", "table"),
    "Chooser": ("settled", "open_views"),
    "Choosing": ("outs", "lacking", "stuck"),
    "Choice": ("size", "rounds", "picks"),
    "OrderRule": ("size", "rounds", "names", "greatest"),
    "Kind": ("table", "states", "operations", "answers"),
    "Plan": ("kind", "start", "operations"),
    "Course": ("plan", "steps", "state", "written", "answers", "signals"),
    "Play": ("host", "guest", "rounds", "maps"),
    "Machine": ("size", "states", "starts", "moves", "decisions", "inputs"),
    "MachineRun": ("machine", "pool", "row", "word", "configuration", "shown", "trail"),
    "Desk": ("names", "claims", "told"),
    "Shell": (),
}
CONSTANTS = {"base.pools": {"MAX_WEBS": 80}, "known.words": {"MAX_ROUNDS": 6},
             "known.sights": {"MAX_WORDS": 3000, "MAX_RUNS": 4000},
             "objects.kinds": {"MAX_STATES": 12, "MAX_OPERATIONS": 8},
             "machines.machines": {"MAX_STATES": 3000, "MAX_REACHED": 20000},
             "desk.desk": {"MAX_ENTRIES": 8, "MAX_CLAIMS": 8}}


def heading(function):
    return function.__name__ + str(inspect.signature(function)).replace(" ", "")


class InterfaceTest(TestCase):
    def test_functions(self):
        for name, listed in FUNCTIONS.items():
            module = import_module("poolmaps." + name)
            for told in listed.split():
                function = vars(module)[told.split("(")[0]]
                self.assertEqual((heading(function), function.__module__), (told, "poolmaps." + name))

    def test_classes(self):
        for (name, title), listed in METHODS.items():
            own = vars(import_module("poolmaps." + name))[title]
            self.assertEqual(own.__module__, "poolmaps." + name)
            for told in listed.split():
                self.assertEqual(heading(vars(own)[told.split("(")[0]]), told)
            for method in (*SIGNS[title], *PROPERTIES[title]):
                self.assertIn(method, vars(own))

    def test_constants(self):
        for name, listed in CONSTANTS.items():
            for constant, value in listed.items():
                self.assertEqual(vars(import_module("poolmaps." + name))[constant], value)


def calls():
    """A call of each function and method, with the values that it is passed."""
    pool, pair, web = pair_pool("RLB"), pair_pool("RL"), Web(((1,), (0,)), (0, 3))
    way = ((1, (2,)), (0, (1,)))
    certificate = ((((0, 1),), ((0,), (1,))), (0, 1))
    return [
        (web.signal, 0), (web.hears, 0), (web.reached, 0), (web.without_hearing, 0, 1), (web.with_mark, 0, 1),
        (web.unmarked,), (web.joined, pool[0]), (web.shared, pool[0]), (web.then, pool[0]), (web.is_within, pool[0]),
        (web.renumbered, (1, 0)), (pool[0].with_hearing, 0, 1), (str, web), (len, web), (web.__contains__, (0, 1)),
        (pool.index_of, pool[1]), (pool.picked, (2, 0)), (pool.with_web, web), (pool.without_web, 0),
        (pool.unmarked,), (pool.renumbered, (1, 0)), (pool.merged, pair), (pool.is_within, pair), (str, pool),
        (words.is_word, pool, (0,)), (words.count_words, pool, 2), (words.known, pool, (0, 1)),
        (words.known_by_everyone, pool, (0,)), (words.known_since, pool, (0, 1), 0, 1),
        (sights.sight_numbers, pool, 2), (sights.sight_counts, pool, 2), (sights.same_sight, pool, 0, (1,), (2,)),
        (sights.difference, pool, 0, (0,), (1,)), (sights.is_difference, pool, 0, (0,), (1,), (0,)),
        (sights.view_of, pool, ((0, 1), (2,)), 0), (sights.views_of, pool, ((0, 1), (2,))),
        (sights.all_views, pool, 1, ((0, 1), (1, 1))), (lots.lots_of, pool, 1), (lots.lot_of, pool, (0,)),
        (lots.lot_way, pool, (0,), (1,)), (lots.is_lot_way, pool, (0,), (1,), way),
        (common.knows, pool, 1, ((0,), (2,)), 1), (common.all_know, pool, 1, ((0,), (2,)), 1),
        (common.commonly_known, pool, 1, ((0,), (2,))), (common.level, pool, 1, ((0,), (2,)), (0,)),
        (links.alike, pool, 0, 1, 2), (links.links_in, pool, (0, 1, 2)), (links.is_link, pool, (0, 1, 2), (0, 2, 1)),
        (links.linked_way, pool, (0, 1, 2), 0, 1), (links.is_linked_way, pool, (0, 1, 2), 0, 1, ((1, 2), (0, 1))),
        (links.parts_of, pool, (0, 1)), (closed.common_roots, pool, (0, 2)), (closed.is_closed, pool, (0, 1)),
        (closed.splitting, pool), (closed.splitting_steps, pair), (closed.can_agree, pool), (closed.obstacle, pool),
        (closed.is_obstacle, pool, (0, 1, 2)), (closed.agreement_certificate, pair),
        (closed.is_agreement_certificate, pair, certificate), (bars.agree_in, pair, 1), (bars.heralds, pair, 1),
        (bars.are_heralds, pair, 1, (0, 1)), (bars.bar, pool, 1), (bars.is_bar, pool, 1, ((0,), way)),
        (bars.least_rounds, pair),
    ]


def later_calls():
    """The same for sieves, near agreement, tasks and rules."""
    pool, pair, agree = pair_pool("RLB"), pair_pool("RL"), agreement_task(2)
    chain, told = limits.near_chain(pool, 1), limits.near_map(pool, 1, 2)
    rule = rules.Rule(pair, 1, {view: view[2][0][1] for view in sights.all_views(pair, 1, agree.rows)})
    view = rule.views[2]
    return [
        (sieves.fewest_out, pool), (sieves.is_fewest_out, pool, (2,)), (limits.near_limit, pool, 2),
        (limits.near_chain, pool, 2), (limits.is_near_chain, pool, 1, chain), (limits.near_distances, pool, 1),
        (limits.near_map, pool, 1, 2), (limits.is_near_map, pool, 1, 2, told), (limits.near_least, pool, 4),
        (middles.rootless, pool), (middles.near_ever, pool), (middles.middle_map, pool, 1, 2), (agree.outputs, 0),
        (agree.with_row, (0, 5), ((0, 0),)), (agree.without_row, (0, 1)), (agree.is_easier, agree),
        (agree.__and__, near_task(2, 1)), (agree.replaced, {0: 1, 1: 5}), (agree.renumbered, (1, 0)), (str, agree),
        (len, rule), (rule.outcome, (0, 1), (0,)), (rule.lengthened, 1, agree), (rule.for_pool, pair_pool("L")),
        (rule.replaced, {0: 1, 1: 5}), (rule.with_output, view, 1), (rules.does, rule, agree),
        (rules.found_fault, rule, agree), (rules.is_fault, rule, agree, ((0, 1), (0,))), (str, rule),
    ]


def last_calls():
    """The same for the search, tasks of two threads, and counting in snap pools."""
    pool, pair, agree, near = pair_pool("RLB"), pair_pool("RL"), agreement_task(2), near_task(2, 3)
    told, tree = search.refusal(pool, agree, 1), ever.pair_refusal(pool, agree)
    picks = {key: key[0] for key in rainbows.Choice(2, 1, {(0, 0): 0, (0, 1): 1, (1, 0): 0, (1, 1): 1}).picks}
    choice, ranks = rainbows.Choice(2, 1, picks), names.rank_rule(2)
    rule = rules.Rule(snap_pool(2), 1, {
        view: view[0] for view in sights.all_views(snap_pool(2), 1, ((0, 1),))})
    certificate = ever.pair_certificate(pool, near)
    return [
        (search.can_do, pair, agree, 1), (search.made_rule, pair, agree, 1), (search.refusal, pool, agree, 1),
        (search.is_refusal, pool, agree, 1, told), (search.least_for, pair, agree),
        (graphs.row_parts, near, (0, 1)), (graphs.way_length, near, (0, 1), 0, 3),
        (graphs.shortest_way, near, (0, 1), 0, 3), (graphs.is_way, near, (0, 1), 0, 0, ((0, 0),)),
        (ever.pair_kind, pool), (ever.can_ever, pool, agree), (ever.least_ever, pool, near),
        (ever.pair_certificate, pool, near), (ever.is_pair_certificate, pool, near, certificate),
        (ever.pair_refusal, pool, agree), (ever.is_pair_refusal, pool, agree, tree), (ever.pair_rule, pool, near, 2),
        (signs.blocks_of, pool[2]), (signs.web_sign, pool[2]), (signs.partner_way, 2, (0, 0), (1, 1)),
        (signs.is_partner_way, 2, ((0,), (2,))), (choice.picked_by, (0,)), (choice.with_pick, 0, 1, 1), (len, choice),
        (rainbows.rainbows, choice), (rainbows.rainbow, choice), (rainbows.is_rainbow, choice, (0,)),
        (rainbows.rainbow_total, choice), (rainbows.picked_numbers, choice), (rainbows.choice_of, rule), (str, choice),
        (rainbows.Choice, 2, 1, picks), (names.pattern_of, 2, (0,), 1), (names.patterns, 2, 1), (names.is_unlike, ranks),
        (names.clash, ranks), (names.is_clash, ranks, (2, (0,), (0, 1))), (names.as_rule, ranks, ((0, 1), (1, 0))),
        (names.triangle, ranks, (1, 2)), (ranks.names_in, 2, (0,)), (ranks.mapped, {1: 1, 2: 2, 3: 9}),
        (ranks.for_fewer, 1), (str, ranks),
    ]


def calls_of_objects_and_plays():
    """The same for kinds, plans, powers and plays."""
    pool, pair, web, near = pair_pool("RLB"), pair_pool("RL"), Web(((), (0,))), near_task(2, 3)
    kind, flag = kinds.cell_kind(2), plans.Plan(kinds.flag_kind(), 0, 0, 0)
    plan, play = plans.Plan(kind, 0, 0, 1), plays.power_play(pool, 2)
    rule, told = search.made_rule(play.guest, near, 1), plays.play_refusal(pair_pool("BR"), pair_pool("B"), 1)
    return [
        (kind.step, 0, 1), (kind.after, 0, (0, 1, 2)), (kind.states_from, 0), (kind.relabeled, (1, 0), (2, 0, 1)),
        (kind.__mul__, kinds.flag_kind()), (str, kind), (plan.seen, 0, (0, 1)), (plan.turned,), (str, plan),
        (plans.plan_web, plan, (0, 0, 0, 1, 1, 1)), (plans.plan_pool, plan), (plans.tells, plan),
        (plans.confusion, plan), (plans.is_confusion, plan, (0, (0,))), (plans.confused_group, plan, (0, (0,))),
        (plans.first_done, flag, 1, ((0, 1), 101)), (plans.plan_rule, flag), (plans.telling_plans, kind),
        (powers.power_pool, pool, 2), (powers.power_word, pool, 2, (0, 1)), (plays.Play, pool, play.guest, 2, play.maps),
        (plays.is_play, pool, play.guest, 2, play.maps), (plays.same_play, pool), (plays.lesser_play, pair, pool),
        (plays.forgetting_play, pool, web), (plays.power_play, pool, 2), (plays.made_play, pool, pair_pool("RN"), 1),
        (plays.play_refusal, pair_pool("BR"), pair_pool("B"), 1),
        (plays.is_play_refusal, pair_pool("BR"), pair_pool("B"), 1, told), (plays.never_plays, pool, pair),
        (plays.is_never, pool, pair, ("agree", (0, 1, 2))), (play.signal_for, 0, 0), (play.word_of, (0, 1)),
        (play.then, plays.same_play(play.guest)), (play.carried, rule, near), (str, play),
    ]


def calls_of_machines_and_texts():
    """The same for machines and texts."""
    pool, near, rows = pair_pool("RLB"), near_task(2, 3), near_task(2, 3).rows
    rule, tree = search.made_rule(pool, near, 1), search.refusal(pool, agreement_task(2), 1)
    machine = machines.machine_of(rule)
    letter, claim, start = list(machine.moves)[0], ("near", "two", 1, 3), machine.beginning((0, 1))
    work = (machine, pool, near)
    certificate, fault = right.machine_certificate(*work), right.machine_fault(machine, pool, agreement_task(2))
    return [
        (machine.beginning, (0, 1)), (machine.round_of, start, pool[0]), (machine.letters, start, pool[0]),
        (machine.shown_at, start), (machine.with_move, letter, 0), (machine.without_move, letter),
        (machine.with_decision, 0, 0, 1), (machine.renumbered, (1, 0)), (machine, (0, 1), pool, (0, 1)),
        (len, machine), (str, machine), (machines.machine_of, rule), (machines.rule_of, machine, pool, 1, rows),
        (runs.met_letters, machine, pool, rows), (runs.parting_run, machine, machine.without_move(letter), pool, rows),
        (right.is_right, *work), (right.right_rounds, *work), (right.machine_fault, *work),
        (right.is_machine_fault, machine, pool, agreement_task(2), fault), (right.machine_certificate, *work),
        (right.is_machine_certificate, *work, certificate), (right.driven_fault, machine, pool, (0, 1, 2)),
        (texts.write_web, pool[0]), (texts.write_pool, pool), (texts.write_word, (0, 1)), (texts.write_task, near),
        (texts.write_rule, rule), (texts.write_tree, tree), (texts.write_claim, claim), (texts.read_web, "1 -"),
        (texts.read_pool, "1 - | - 0"), (texts.read_word, "0 1"), (texts.read_task, texts.write_task(near)),
        (texts.read_tree, texts.write_tree(tree)), (texts.read_claim, "near two 1 3"),
        (texts.read_rule, pool, texts.write_rule(rule)),
    ]


KEPT_OBJECTS = (
    machines.Machine, Web, Pool, Task, rules.Rule, rainbows.Choice, names.OrderRule, kinds.Kind, plans.Plan, plays.Play,
)


class NothingChangesTest(TestCase):
    def test_calls_change_no_argument_and_are_equal_each_time(self):
        for call, *args in [*calls(), *later_calls(), *last_calls(), *calls_of_objects_and_plays(),
                            *calls_of_machines_and_texts()]:
            passed = [getattr(call, "__self__", None), *args]
            watched = [value for value in passed if isinstance(value, (*KEPT_OBJECTS, tuple, dict))]
            before = deepcopy(watched)
            self.assertEqual(call(*args), call(*args))
            self.assertEqual(watched, before)
            for one, other in zip(watched, before):
                if isinstance(one, KEPT_OBJECTS):
                    self.assertEqual(vars(one), vars(other))

    def test_equal_pools_give_equal_results(self):
        for one, other in ((snap_pool(2), Pool(snap_pool(2).webs)), (pair_pool("RLB"), pair_pool("RLB"))):
            self.assertEqual(lots.lots_of(one, 3), lots.lots_of(other, 3))
            self.assertEqual(closed.obstacle(one), closed.obstacle(other))
            self.assertEqual(bars.bar(one, 3), bars.bar(other, 3))

    def test_a_story_keeps_its_pool(self):
        pool = pair_pool("RLB")
        story = stories.Story(pool)
        for index in (0, 1, 2):
            story.go(index)
        self.assertEqual((pool, vars(pool)), (pair_pool("RLB"), vars(pair_pool("RLB"))))
