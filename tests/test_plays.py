"""Plays of pools in pools, against all maps, and all words of the host block by block."""

from itertools import product
from random import Random
from time import process_time

from poolmaps.base.pools import Pool, chain_pool, pair_pool, snap_pool, star_pool
from poolmaps.base.webs import Web, silent_web
from poolmaps.errors import (
    InvalidNumber, InvalidOperation, InvalidPool, InvalidRule, InvalidTask, InvalidWeb, InvalidWord, TooMany,
)
from poolmaps.near.limits import near_limit
from poolmaps.plays.plays import (
    Play, forgetting_play, is_never, is_play, is_play_refusal, lesser_play, made_play, never_plays, play_refusal,
    power_play, same_play,
)
from poolmaps.plays.powers import power_pool, power_word
from poolmaps.tasks.rules import Rule, does
from poolmaps.tasks.search import can_do, made_rule
from poolmaps.tasks.tasks import Task, agreement_task, near_task
from tests.reckoning import all_groups, slow_common_roots, slow_parts, slow_roots, slow_steps
from tests.support import (
    ALL3, SNAPS, WRONG, Case, all_webs, is_int, is_int_tuple, marked_pools, near_values, not_numbers, not_pools,
    not_webs, not_words, pair_pools, plain_words, slow_known, slow_run_views, slow_sight, wrong_where,
)

RIGHT, LEFT, BOTH = Web(((), (0,))), Web(((1,), ())), Web(((1,), (0,)))
SNAP, ENDS = SNAPS[2], pair_pool("RL")


def numbered(pool, rounds):
    """A dict from the words to the numbers of the sights of all threads, by the sights themselves."""
    words = plain_words(pool, rounds)
    firsts = [list(dict.fromkeys(slow_sight(pool, word, t) for word in words)) for t in range(pool.size)]
    return {word: tuple(firsts[t].index(slow_sight(pool, word, t)) for t in range(pool.size)) for word in words}


def slow_is_play(host, guest, rounds, value):
    """The definition of a play, sentence by sentence."""
    if type(value) is not tuple or len(value) != host.size or any(type(told) is not dict for told in value):
        return False
    numbers = numbered(host, rounds)
    for thread, told in enumerate(value):
        if any(not is_int(key) for key in told):
            return False
        if set(told) != {each[thread] for each in numbers.values()}:
            return False
        for signal in told.values():
            if type(signal) is not tuple or len(signal) != 2 or not is_int_tuple(signal[0]) or not is_int(signal[1]):
                return False
    webs = [web.signals for web in guest]
    for word, each in numbers.items():
        knowing = slow_known(host, word)
        signals = tuple(value[thread][number] for thread, number in enumerate(each))
        if any(not set(signal[0]) <= set(knowing[thread]) for thread, signal in enumerate(signals)):
            return False
        if signals not in webs:
            return False
    return True


def menus_of(host, guest, rounds):
    """For each sight, ascending, the signals that hear only known threads."""
    known = {}
    for word, each in numbered(host, rounds).items():
        for sight in enumerate(each):
            known[sight] = set(slow_known(host, word)[sight[0]])
    return {
        sight: [signal for signal in sorted({web.signals[sight[0]] for web in guest}) if set(signal[0]) <= known[sight]]
        for sight in sorted(known)}


def has_play(host, guest, rounds, most=3000):
    """Whether one of all maps is a play; None if there are too many to try."""
    menus, many = menus_of(host, guest, rounds), 1
    for menu in menus.values():
        many *= len(menu)
    if many > most:
        return None
    webs, told = {web.signals for web in guest}, numbered(host, rounds).values()
    for chosen in product(*menus.values()):
        signals = dict(zip(menus, chosen))
        if all(tuple(signals[sight] for sight in enumerate(each)) in webs for each in told):
            return True
    return False


def slow_is_refusal(host, guest, rounds, value):
    """The definition of a certificate that there is no play, node by node."""
    if type(value) is not tuple or not 1 <= len(value) <= 5000:
        return False
    menus, numbers, ways = menus_of(host, guest, rounds), numbered(host, rounds), {0: []}
    for at, node in enumerate(value):
        if at not in ways or type(node) is not tuple or not node:
            return False
        if type(node[0]) is str and node[0] == "ask" and len(node) == 4:
            if not is_int(node[1]) or not is_int(node[2]) or (node[1], node[2]) not in menus:
                return False
            rows, menu = node[3], menus[node[1], node[2]]
            if type(rows) is not tuple or len(rows) != len(menu):
                return False
            for row, signal in zip(rows, menu):
                if type(row) is not tuple or len(row) != 2 or repr(row[0]) != repr(signal):
                    return False
                if not is_int(row[1]) or not at < row[1] < len(value) or row[1] in ways:
                    return False
                ways[row[1]] = ways[at] + [((node[1], node[2]), signal)]
        elif type(node[0]) is str and node[0] == "stop" and len(node) == 2:
            if not is_int_tuple(node[1]) or node[1] not in numbers:
                return False
            asked = [(sight, signal) for sight, signal in ways[at] if numbers[node[1]][sight[0]] == sight[1]]
            if any(all(web.signals[sight[0]] == signal for sight, signal in asked) for web in guest):
                return False
        else:
            return False
    return len(ways) == len(value)


def slow_is_never(host, guest, value):
    """The three forms, by their words."""
    if type(value) is not tuple or not value or type(value[0]) is not str:
        return False
    rooted = all(slow_roots(web) for web in guest)
    if value[0] == "agree" and len(value) == 2:
        return (value[1] in all_groups(host) and is_int_tuple(value[1]) and len(slow_parts(host, value[1])) == 1
                and not slow_common_roots(host, value[1])
                and all(slow_common_roots(guest, group) for group in slow_steps(guest)[-1]))
    if value[0] == "roots" and len(value) == 2:
        return is_int(value[1]) and 0 <= value[1] < len(host) and rooted and not slow_roots(host.webs[value[1]])
    if value[0] == "hear" and len(value) == 4 and is_int_tuple(value[1:]) and min(value[1:]) >= 0:
        thread, other, index = value[1:]
        if thread >= host.size or other >= host.size or index >= len(host):
            return False
        heard = all(other in web.heard[thread] for web in guest)
        reached = {other}
        for _ in range(host.size):
            reached |= {t for t in range(host.size) if reached & set(host.webs[index].heard[t])}
        return heard and thread not in reached
    return False


def drawn_pools(number, seed):
    """Drawn pools of two and three threads, some of them with marks, in pairs of one size."""
    drawn, pairs = Random(seed), []
    webs = {2: all_webs(2), 3: ALL3}

    def pool(size):
        told = []
        for _ in range(drawn.randrange(1, 5)):
            web = drawn.choice(webs[size])
            for thread in range(size):
                if drawn.random() < 0.3:
                    web = web.with_mark(thread, drawn.randrange(2))
            if web not in told:
                told.append(web)
        return Pool(tuple(told))

    while len(pairs) < number:
        size = drawn.choice((2, 2, 3))
        pairs.append((pool(size), pool(size)))
    return pairs


PAIRS = [*product(pair_pools(), pair_pools()), *drawn_pools(200, 41)]


class PlaysTest(Case):
    def test_plays_and_refusals_against_all_maps(self):
        told = [0, 0]
        for at, (host, guest) in enumerate(PAIRS):
            for rounds in (1, 2) if at % 5 == 0 and len(host) < 4 else (1,):
                right = has_play(host, guest, rounds)
                try:
                    play = made_play(host, guest, rounds)
                except InvalidOperation:
                    self.assertIn(right, (False, None))
                    refusal = play_refusal(host, guest, rounds)
                    self.assertTrue(is_play_refusal(host, guest, rounds, refusal))
                    self.assertTrue(slow_is_refusal(host, guest, rounds, refusal))
                    told[0] += 1
                else:
                    self.assertIn(right, (True, None))
                    self.assertTrue(slow_is_play(host, guest, rounds, play.maps))
                    self.assertTrue(is_play(host, guest, rounds, play.maps))
                    self.fails(InvalidOperation, play_refusal, host, guest, rounds)
                    self.assertIsNone(never_plays(host, guest))
                    told[1] += 1
        self.assertGreater(min(told), 80)

    def test_greater_refusals(self):
        for guest, rounds in ((power_pool(SNAP, 2), 1), (power_pool(SNAP, 3), 1), (power_pool(SNAP, 3), 2)):
            refusal = play_refusal(SNAP, guest, rounds)
            self.assertTrue(is_play_refusal(SNAP, guest, rounds, refusal))
            self.assertTrue(slow_is_refusal(SNAP, guest, rounds, refusal))
        self.fails(InvalidOperation, made_play, SNAP, power_pool(SNAP, 3), 2)
        for rounds in (2, 3):
            self.assertTrue(is_play(SNAP, power_pool(SNAP, 2), rounds, made_play(SNAP, power_pool(SNAP, 2), rounds).maps))

    def test_judges_near_right_values(self):
        for host, guest in ((SNAP, pair_pool("BN")), (ENDS, pair_pool("N")), (marked_pools()[1], pair_pool("RLN"))):
            play = made_play(host, guest, 1)
            for value in near_values(play.maps):
                right = slow_is_play(host, guest, 1, value)
                self.assertIs(is_play(host, guest, 1, value), right)
                if right:
                    self.assertEqual(Play(host, guest, 1, value).maps, value)
                else:
                    self.fails(InvalidOperation, Play, host, guest, 1, value)
        for host, guest in ((pair_pool("BR"), pair_pool("B")), (pair_pool("LN"), pair_pool("R"))):
            refusal = play_refusal(host, guest, 1)
            for value in near_values(refusal):
                self.assertIs(is_play_refusal(host, guest, 1, value), slow_is_refusal(host, guest, 1, value))
        told = 0
        for host, guest in drawn_pools(150, 167):
            if has_play(host, guest, 1) is False:
                refusal = play_refusal(host, guest, 1)
                if 3 < len(refusal) < 7 and told < 4:
                    told += 1
                    for value in near_values(refusal):
                        self.assertIs(is_play_refusal(host, guest, 1, value), slow_is_refusal(host, guest, 1, value))
        self.assertEqual(told, 4)
        for judge in (is_play, is_play_refusal):
            self.judges(judge, (SNAP, ENDS, 1))
        self.judges(is_never, (SNAP, ENDS))

    def test_refusals_of_others(self):
        # A sight without a signal shows it by itself; unasked sights do not count at a stop.
        host, guest = pair_pool("L"), pair_pool("R")
        self.assertTrue(is_play_refusal(host, guest, 1, (("ask", 1, 0, ()),)))
        self.assertFalse(is_play_refusal(host, guest, 1, (("stop", (0,)),)))
        # A sight may be asked again: two signals at once are those of no web.
        host, guest = SNAP, Pool((BOTH, silent_web(2).with_mark(0, 1)))
        alone, heard = ((0,), 1), ((0, 1), 0)
        again = (
            ("ask", 0, 1, ((alone, 1), (heard, 2))), ("ask", 0, 1, ((alone, 3), (heard, 4))), ("stop", (1,)),
            ("stop", (1,)), ("stop", (1,)))
        for value in (again, again[:2] + (("ask", 0, 0, ((alone, 5),)),) + again[3:] + (("stop", (0,)),)):
            self.assertIs(is_play_refusal(host, guest, 1, value), slow_is_refusal(host, guest, 1, value))
        host, guest = pair_pool("B"), Pool((RIGHT.with_mark(0, 1), RIGHT.with_mark(1, 2)))
        one, other = ((0,), 0), ((0,), 1)
        first, second = ((0, 1), 0), ((0, 1), 2)
        self.assertEqual(len(made_play(host, guest, 1).maps), 2)
        tree = (
            ("ask", 0, 0, ((one, 1), (other, 2))), ("ask", 0, 0, ((one, 3), (other, 4))),
            ("ask", 1, 0, ((first, 5), (second, 6))), ("stop", (0,)), ("stop", (0,)), ("stop", (0,)), ("stop", (0,)))
        self.assertIs(is_play_refusal(host, guest, 1, tree), slow_is_refusal(host, guest, 1, tree))

    def test_the_most_nodes(self):
        # A sight that is asked again and again, and at last one without a signal.
        host, guest = pair_pool("BR"), pair_pool("B")
        heard = numbered(host, 1)[(0,)][0]
        alone = numbered(host, 1)[(1,)][0]
        for many in (1, 2, 4999, 5000):
            chain = tuple(("ask", 0, heard, ((((0, 1), 0), at + 1),)) for at in range(many))
            self.assertIs(is_play_refusal(host, guest, 1, (*chain, ("ask", 0, alone, ()))), many < 5000)
        self.assertIs(is_play_refusal(host, guest, 1, ()), False)

    def test_properties_and_words(self):
        for host, guest, rounds in ((SNAP, pair_pool("RLBN"), 1), (SNAP, power_pool(SNAP, 2), 2), (ENDS, SNAP, 2)):
            play = made_play(host, guest, rounds)
            self.assertEqual((play.host, play.guest, play.rounds), (host, guest, rounds))
            self.assertEqual(str(play), f"play of {len(guest)} webs in {len(host)} webs, {rounds} rounds")
            self.assertEqual([list(told) for told in play.maps], [sorted(told) for told in play.maps])
            for thread, told in enumerate(play.maps):
                for number, signal in told.items():
                    self.assertEqual(play.signal_for(thread, number), signal)
                for number in not_numbers(0, len(told) - 1):
                    self.fails_keeping(InvalidNumber, number, play.signal_for, thread, number)
            self.checks_arguments(play.signal_for, (0, 0), (
                (InvalidNumber, not_numbers(0, 1)), (InvalidNumber, not_numbers(0, len(play.maps[0]) - 1))))
            numbers = numbered(host, rounds)
            for word in [each for long in range(0, 7 if len(host) < 3 else 5) for each in plain_words(host, long)]:
                if len(word) % rounds:
                    self.fails(InvalidWord, play.word_of, word)
                    continue
                blocks = [word[at:at + rounds] for at in range(0, len(word), rounds)]
                webs = [tuple(play.maps[t][number] for t, number in enumerate(numbers[block])) for block in blocks]
                self.assertEqual([guest.webs[index].signals for index in play.word_of(word)], webs)
            for word in not_words(host):
                self.fails(InvalidWord, play.word_of, word)
            play.maps[0].clear()
            self.assertEqual(play, made_play(host, guest, rounds))

    def test_equality(self):
        plays = [same_play(SNAP), lesser_play(ENDS, SNAP), made_play(SNAP, pair_pool("RLBN"), 1), power_play(SNAP, 2),
                 power_play(ENDS, 1), same_play(ENDS), same_play(pair_pool("LR")), forgetting_play(SNAP, RIGHT)]
        for one, other in product(plays, plays):
            same = (one.host, one.guest, one.rounds, one.maps) == (other.host, other.guest, other.rounds, other.maps)
            self.assertIs(one == other, same)
            self.assertIs(one != other, not same)
        for value in WRONG:
            self.assertIs(plays[0] == value, False)
        # Alike but for the rounds, or but for the maps.
        both, wide = pair_pool("B"), Pool((BOTH, BOTH.with_mark(0, 1)))
        one, other = ({0: ((0, 1), 0)}, {0: ((0, 1), 0)}), ({0: ((0, 1), 1)}, {0: ((0, 1), 0)})
        self.assertTrue(Play(both, both, 1, one) == Play(both, both, 1, one))
        self.assertTrue(Play(both, both, 1, one) != Play(both, both, 2, one))
        self.assertTrue(Play(both, wide, 1, one) != Play(both, wide, 1, other))
        self.assertTrue(Play(both, wide, 1, one) != Play(both, both, 1, one))
        maps = same_play(SNAP).maps
        passed = tuple(dict(reversed(list(told.items()))) for told in maps)
        play = Play(SNAP, SNAP, 1, passed)
        passed[0].clear()
        self.assertEqual(play, same_play(SNAP))


class NamedPlaysTest(Case):
    def test_same_lesser_and_forgetting(self):
        for pool in [*pair_pools(), *marked_pools(), star_pool(3), chain_pool(4)]:
            play = same_play(pool)
            self.assertEqual((play.host, play.guest, play.rounds), (pool, pool, 1))
            for index in range(len(pool)):
                self.assertEqual(play.word_of((index, index)), (index, index))
            for part in ((0,), tuple(range(len(pool)))[::-1]):
                lesser = lesser_play(pool.picked(part), pool)
                self.assertEqual([lesser.word_of((at,)) for at in range(len(part))], [(index,) for index in part])
            for web in (silent_web(pool.size), pool[0]):
                forgetting, webs = forgetting_play(pool, web), []
                for one in pool:
                    heard = [tuple(o for o in one.heard[t] if o in web.heard[t]) for t in range(pool.size)]
                    webs.append(Web(tuple(heard), one.marks))
                once = [each for at, each in enumerate(webs) if each not in webs[:at]]
                self.assertEqual(forgetting.guest.webs, tuple(once))
                for index, each in enumerate(webs):
                    self.assertEqual(forgetting.word_of((index,)), (once.index(each),))

    def test_powers(self):
        for pool, rounds in product([*pair_pools()[:9], *marked_pools()[:3]], (1, 2, 3)):
            if len(pool) ** rounds > 80:
                self.fails_keeping(TooMany, 80, power_play, pool, rounds)
                continue
            play = power_play(pool, rounds)
            self.assertEqual((play.host, play.guest, play.rounds), (pool, power_pool(pool, rounds), rounds))
            for word in plain_words(pool, rounds):
                self.assertEqual(play.word_of(word), power_word(pool, rounds, word))

    def test_one_behind_the_other(self):
        plays = [same_play(SNAP), power_play(SNAP, 2), power_play(ENDS, 2), power_play(ENDS, 3), lesser_play(ENDS, SNAP),
                 power_play(power_pool(ENDS, 2), 2), made_play(SNAP, pair_pool("BLR"), 1), same_play(ENDS),
                 power_play(pair_pool("BLR"), 3), forgetting_play(SNAP, RIGHT), power_play(ENDS, 6)]
        joined = 0
        for one, other in product(plays, plays):
            rounds = one.rounds * other.rounds
            if other.host != one.guest:
                self.fails(InvalidOperation, one.then, other)
            elif rounds > 6:
                self.fails_keeping(InvalidNumber, rounds, one.then, other)
            else:
                both = one.then(other)
                joined += 1
                self.assertEqual((both.host, both.guest, both.rounds), (one.host, other.guest, rounds))
                for word in plain_words(one.host, rounds):
                    self.assertEqual(both.word_of(word), other.word_of(one.word_of(word)))
        self.assertGreater(joined, 12)
        wide = Pool(tuple(silent_web(1).with_mark(0, mark) for mark in range(60)))
        constant = Play(wide, snap_pool(1), 1, ({number: ((0,), 0) for number in range(60)},))
        self.fails_keeping(TooMany, 3000, constant.then, power_play(snap_pool(1), 3))
        for value in WRONG:
            self.fails(InvalidOperation, same_play(SNAP).then, value)


class CarriedTest(Case):
    def checks(self, play, rule, task):
        carried = play.carried(rule, task)
        rounds = play.rounds * rule.rounds
        self.assertEqual((carried.pool, carried.rounds), (play.host, rounds))
        outputs, guest_views = {}, slow_run_views(play.guest, rule.rounds, task.rows)
        for (row, word), views in slow_run_views(play.host, rounds, task.rows).items():
            for view, played in zip(views, guest_views[row, play.word_of(word)]):
                if played in rule:
                    self.assertEqual(outputs.setdefault(view, rule[played]), rule[played])
        self.assertEqual(carried.table, outputs)
        if does(rule, task):
            self.assertTrue(does(carried, task))
        return carried

    def test_rules_run_by_run(self):
        near, agree = near_task(2, 3), agreement_task(2)
        for play, rounds in ((same_play(SNAP), 1), (made_play(SNAP, pair_pool("BLR"), 1), 2), (power_play(SNAP, 2), 1),
                             (lesser_play(ENDS, SNAP), 1), (power_play(SNAP, 3), 0)):
            for task in (near, near_task(2, 1)):
                if can_do(play.guest, task, rounds):
                    rule = made_rule(play.guest, task, rounds)
                    self.checks(play, rule, task)
                    some = Rule(play.guest, rounds, dict(list(rule.table.items())[::2]))
                    self.checks(play, some, task)
                    self.checks(play, rule, Task({(0, 5): ((0, 0),), (0, 1): ((0, 0),)}))
        ends = power_play(ENDS, 2)
        self.checks(ends, made_rule(ends.guest, agree, 1), agree)

    def test_errors(self):
        play = power_play(SNAP, 2)
        rule, task = made_rule(play.guest, near_task(2, 3), 1), near_task(2, 3)
        rules = wrong_where(lambda value: False, made_rule(SNAP, task, 1), play)
        self.checks_arguments(play.carried, (rule, task), (
            (InvalidRule, rules), (InvalidTask, wrong_where(lambda value: type(value) is Task))))
        self.fails(InvalidOperation, play.carried, rule, agreement_task(3))
        six = Rule(play.guest, 0, {})
        self.assertEqual(len(play.carried(six, task)), 0)
        ends = power_play(ENDS, 3)
        for rounds, told in ((2, 6), (3, 9)):
            long = Rule(ends.guest, rounds, {})
            if told > 6:
                self.fails_keeping(InvalidNumber, told, ends.carried, long, task)
                self.fails(InvalidOperation, ends.carried, long, agreement_task(1))
            else:
                self.assertEqual(ends.carried(long, task).rounds, told)
        many = agreement_task(2, 8)
        self.fails_keeping(TooMany, 4000, power_play(ENDS, 2).carried, Rule(power_pool(ENDS, 2), 3, {}), many)
        wide = Pool(tuple(silent_web(1).with_mark(0, mark) for mark in range(60)))
        constant = Play(wide, snap_pool(1), 1, ({number: ((0,), 0) for number in range(60)},))
        self.fails_keeping(TooMany, 3000, constant.carried, Rule(snap_pool(1), 2, {}), agreement_task(1))


class NeverTest(Case):
    def test_certificates(self):
        told = {None: 0, "agree": 0, "hear": 0, "roots": 0}
        for host, guest in PAIRS:
            value = never_plays(host, guest)
            told[value and value[0]] += 1
            forms = [("agree", group) for group in all_groups(host)]
            forms += [("hear", *each) for each in product(range(host.size), range(host.size), range(len(host)))]
            forms += [("roots", index) for index in range(len(host))]
            right = [form for form in forms if slow_is_never(host, guest, form)]
            self.assertTrue(value in right or (value is None and not right))
            for form in forms:
                self.assertIs(is_never(host, guest, form), form in right)
            for form in right[:1]:
                self.assertIsNot(has_play(host, guest, 1), True)
                if len(host) < 3:
                    self.assertIsNot(has_play(host, guest, 2), True)
        self.assertGreater(min(told.values()), 5)

    def test_near_right_ones(self):
        for host, guest in ((SNAP, ENDS), (pair_pool("L"), pair_pool("R")), (pair_pool("BN"), pair_pool("RB")),
                            (SNAPS[3], star_pool(3))):
            for form in ("agree", "hear", "roots"):
                value = never_plays(host, guest)
                for near in near_values((form, *value[1:])):
                    self.assertIs(is_never(host, guest, near), slow_is_never(host, guest, near))

    def test_forms_of_another_length(self):
        host, guest = pair_pool("BN"), pair_pool("RB")
        for value, right in ((("roots", 1), True), (("roots", -1), False), (("roots", 0), False), (("roots", 2), False),
                             (("roots", 1, 0, 1), False), (("roots",), False), (("hear", 1, 0, 1), True),
                             (("hear", 1, 0, -1), False), (("hear", 1), False), (("hear", 1, 0, 2), False)):
            self.assertIs(is_never(host, guest, value), right, value)
        group = never_plays(SNAP, ENDS)[1]
        for value, right in ((("agree", group), True), (("agree", group, 0, 0), False), (("agree", (0, 1)), False),
                             (("roots", group), False), (("agree", group, 0), False)):
            self.assertIs(is_never(SNAP, ENDS, value), right, value)

    def test_near_limits(self):
        for host, guest in PAIRS[:225:7]:
            if has_play(host, guest, 1):
                for rounds in (1, 2):
                    one, other = near_limit(host, rounds), near_limit(guest, rounds)
                    self.assertTrue(one is None or (other is not None and one >= other))


class ErrorsTest(Case):
    def test_errors(self):
        pools = (InvalidPool, not_pools())
        like = (InvalidPool, [*not_pools(), snap_pool(3), snap_pool(1)])
        rounds = (InvalidNumber, not_numbers(1, 6))
        maps = same_play(SNAP).maps
        wrong = (InvalidOperation, [value for value in WRONG if not slow_is_play(SNAP, SNAP, 1, value)])
        self.checks_arguments(Play, (SNAP, SNAP, 1, maps), (pools, like, rounds, wrong))
        for call in (made_play, play_refusal):
            self.checks_arguments(call, (SNAP, SNAP, 1), (pools, like, rounds))
        for call, value in ((is_play, maps), (is_play_refusal, None)):
            self.checks_arguments(call, (SNAP, SNAP, 1, value), (pools, like, rounds, None))
        self.checks_arguments(never_plays, (SNAP, SNAP), (pools, like))
        self.checks_arguments(is_never, (SNAP, SNAP, None), (pools, like, None))
        self.checks_arguments(same_play, (SNAP,), (pools,))
        self.checks_arguments(lesser_play, (ENDS, SNAP), (pools, like))
        self.checks_arguments(forgetting_play, (SNAP, BOTH), (pools, (InvalidWeb, not_webs(2))))
        self.checks_arguments(power_play, (SNAP, 1), (pools, rounds))
        self.fails(InvalidOperation, lesser_play, SNAP, ENDS)
        self.fails(InvalidOperation, lesser_play, Pool((BOTH.with_mark(0, 1),)), SNAP)
        self.fails_keeping(TooMany, 80, power_play, SNAP, 4)

    def test_too_many(self):
        host = snap_pool(3)
        start = process_time()
        for call in (Play, is_play, is_play_refusal):
            self.fails_keeping(TooMany, 3000, call, host, host, 4, None)
            self.fails_keeping(InvalidNumber, 7, call, host, host, 7, None)
        for call in (made_play, play_refusal):
            self.fails_keeping(TooMany, 3000, call, host, host, 4)
            self.fails_keeping(TooMany, 3000, call, snap_pool(4), snap_pool(4), 2)
        self.assertLess(process_time() - start, 2)
