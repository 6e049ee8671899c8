"""Texts, by a writer of the tests' own; each spoilt text is refused exactly if no value has it."""

import re
from random import Random

from poolmaps.base.pools import Pool, chain_pool, pair_pool, snap_pool, star_pool
from poolmaps.base.webs import Web, full_web
from poolmaps.errors import (
    InvalidOperation, InvalidPool, InvalidRule, InvalidTask, InvalidWeb, InvalidWord, ParseError, TooMany,
)
from poolmaps.known.sights import all_views
from poolmaps.tasks.rules import Rule
from poolmaps.tasks.search import made_rule, refusal
from poolmaps.tasks.tasks import Task, agreement_task, choice_task, near_task
from poolmaps.text.texts import (
    read_claim, read_pool, read_rule, read_task, read_tree, read_web, read_word, write_claim, write_pool, write_rule,
    write_task, write_tree, write_web, write_word,
)
from tests.support import (
    WRONG, Case, is_int, is_int_tuple, marked_pools, near_values, not_pools, pair_pools, slow_run_views, small_pools,
    wrong_where,
)
from tests.test_desk import looks_like_claim

WEBS = [web for pool in [*small_pools(), *marked_pools(), snap_pool(3), chain_pool(5)] for web in pool] + [
    full_web(5), Web(((1, 2, 3, 4), (), (0, 4), (), (0,)), (9999, 0, 1, 0, 10))]
POOLS = [*pair_pools(), *marked_pools(), star_pool(4), snap_pool(3)]
WORDS = [(), (0,), (79,), (1, 0, 10), (0,) * 6, (79,) * 6]
TASKS = [agreement_task(2), near_task(2, 3), choice_task(3, 2), agreement_task(1, 10), near_task(3, 5),
         Task({(9, 0): ((0, 99), (10, 0)), (0, 1): ((5, 5),)}), Task({(3,): ((0,), (42,))})]
TREES = [
    (("ask", (0, 0, ((0, 1),)), ((0, 1),)), ("stop", (1, 1), ())), refusal(pair_pool("RLB"), agreement_task(2), 1),
    (("stop", (9,), (79, 0)), ("stop", (0, 1, 2, 3, 4), (1,) * 6)), (("ask", (4, 10 ** 59, ((0, 9), (4, 0))), ((0, 0), (99, 10 ** 60 - 1))),),
]
CLAIMS = [("agrees", "a"), ("never", "abcdefgh"), ("within", "a", "b"), ("can", "two", "same", 6), ("does", "x", "y"),
          ("near", "two", 0, 10 ** 60 - 1), ("near", "two", 1, 0)]
RULES = [
    Rule(pair_pool("RL"), 1, {}), Rule(pair_pool("RL"), 0, {(0, 0, ((0, 0),)): 7, (1, 0, ((1, 3),)): 8}),
    made_rule(snap_pool(2), near_task(2, 9), 2), made_rule(pair_pool("RL"), agreement_task(2), 1),
    Rule(star_pool(3), 1, {view: 99 for view in all_views(star_pool(3), 1, ((0, 5, 9), (1, 1, 1)))}),
]


# A writer of the tests' own.

def own_list(parts):
    text = ""
    for part in parts:
        text += (" " if text else "") + str(part)
    return text or "-"


def own_web(web):
    texts = []
    for thread in range(web.size):
        others = "".join("01234"[other] for other in web.heard[thread])
        texts.append((others or "-") + ("" if web.marks[thread] == 0 else ":" + str(web.marks[thread])))
    return own_list(texts)


def own_task(task):
    return " ; ".join(
        own_list(row) + " = " + " , ".join(own_list(right) for right in task.table[row]) for row in task.rows)


def own_view(view):
    return own_list([view[0], view[1], *[f"{thread}={entry}" for thread, entry in view[2]]])


def own_rule(rule):
    text = str(rule.rounds)
    for view in sorted(rule.table):
        text += " ; " + own_view(view) + " > " + str(rule.table[view])
    return text


def own_tree(tree):
    texts = []
    for word, *rest in tree:
        if word == "ask":
            texts.append("ask " + own_view(rest[0]) + " > " + own_list(f"{one}:{two}" for one, two in rest[1]))
        else:
            texts.append("stop " + own_list(rest[0]) + " | " + own_list(rest[1]))
    return " ; ".join(texts)


# What texts there are, by patterns of the tests' own.

NUMBER = "(?:0|[1-9][0-9]{0,59})"


def fits(pattern, text):
    return re.fullmatch(pattern.replace("N", NUMBER), text, re.ASCII) is not None


def numbers(text):
    """The integers of a list, or None."""
    if not fits("-|N(?: N)*", text):
        return None
    return [] if text == "-" else [int(part) for part in text.split(" ")]


def climbs(parts):
    return all(one < other for one, other in zip(parts, parts[1:]))


def is_web_text(text):
    if not fits("(?:-|[0-4]+)(?::[1-9][0-9]{0,3})?(?: (?:-|[0-4]+)(?::[1-9][0-9]{0,3})?)*", text):
        return False
    heard = [part.split(":")[0].replace("-", "") for part in text.split(" ")]
    return len(heard) <= 5 and all(
        climbs(figures) and str(at) not in figures and all(int(figure) < len(heard) for figure in figures)
        for at, figures in enumerate(heard))


def is_pool_text(text):
    webs = text.split(" | ")
    if not all(is_web_text(web) for web in webs) or len({len(web.split(" ")) for web in webs}) > 1:
        return False
    return len(webs) == len(set(webs)) <= 80


def is_word_text(text):
    told = numbers(text)
    return told is not None and len(told) <= 6 and all(index < 80 for index in told)


def is_task_text(text):
    rows, size = [], None
    for part in text.split(" ; "):
        if part.count(" = ") != 1:
            return False
        row, rights = part.split(" = ")
        told = [numbers(row), *[numbers(right) for right in rights.split(" , ")]]
        size = size or (told[0] and len(told[0]))
        if not size or size > 5 or any(each is None or len(each) != size for each in told):
            return False
        if max(told[0]) > 9 or max(max(right) for right in told[1:]) > 99 or not climbs(told[1:]) or len(told) > 257:
            return False
        rows.append(told[0])
    return climbs(rows) and len(rows) <= 64


def view_of_text(text, size):
    """The view of a text as a list, or None."""
    if not fits("[0-4] N(?: [0-4]=[0-9])+", text):
        return None
    thread, number, *pairs = text.split(" ")
    threads = [pair[0] for pair in pairs]
    if not climbs(threads) or thread not in threads or int(threads[-1]) >= size:
        return None
    return [int(thread), int(number), [[int(pair[0]), int(pair[2])] for pair in pairs]]


def is_tree_text(text):
    for part in text.split(" ; "):
        if fits("ask .* > N:N(?: N:N)*", part) and part.count(" > ") == 1:
            view, branches = part[4:].split(" > ")
            if not fits("N:N(?: N:N)*", branches):
                return False
            outputs = [int(branch.split(":")[0]) for branch in branches.split(" ")]
            if view_of_text(view, 5) is None or not climbs(outputs) or outputs[-1] > 99:
                return False
        elif fits("stop [0-9](?: [0-9]){0,4} [|] .*", part) and part.count(" | ") == 1:
            if not is_word_text(part.split(" | ")[1]):
                return False
        else:
            return False
    return True


def is_claim_text(text):
    name = "[a-z]{1,8}"
    return fits(f"(?:agrees|never) {name}|(?:within|does) {name} {name}|can {name} {name} [0-6]|near {name} [0-6] N", text)


def is_rule_text(pool, text):
    rounds, *parts = text.split(" ; ")
    if not fits("[0-6]", rounds) or not all(part.count(" > ") == 1 for part in parts):
        return False
    told = [part.split(" > ") for part in parts]
    views = [view_of_text(view, pool.size) for view, _ in told]
    if None in views or not climbs(views) or not all(fits("[0-9]|[1-9][0-9]", output) for _, output in told):
        return False
    known = {
        view[:2]: [thread for thread, _ in view[2]]
        for views_there in slow_run_views(pool, int(rounds), [(0,) * pool.size]).values() for view in views_there}
    return all(known.get(tuple(view[:2])) == [thread for thread, _ in view[2]] for view in views)


def looks_like_tree(value):
    """The form of a tree, as the document tells it."""
    if type(value) is not tuple or not value or not all(type(node) is tuple and len(node) == 3 for node in value):
        return False
    for word, one, two in value:
        if type(word) is not str or type(one) is not tuple or type(two) is not tuple:
            return False
        if word == "stop":
            if not is_int_tuple(one) or not is_int_tuple(two) or not 1 <= len(one) <= 5 or len(two) > 6:
                return False
            if not all(0 <= entry <= 9 for entry in one) or not all(0 <= index <= 79 for index in two):
                return False
        elif word == "ask":
            if len(one) != 3 or not is_int_tuple(one[:2]) or not 0 <= one[0] < 5 or not 0 <= one[1] < 10 ** 60:
                return False
            if type(one[2]) is not tuple or not all(is_int_tuple(pair) and len(pair) == 2 for pair in (*one[2], *two)):
                return False
            threads, outputs = [pair[0] for pair in one[2]], [pair[0] for pair in two]
            if one[0] not in threads or not all(0 <= thread < 5 for thread in threads) or not outputs:
                return False
            if any(told != sorted(set(told)) for told in (threads, outputs)):
                return False
            if not all(0 <= pair[1] <= 9 for pair in one[2]) or not 0 <= outputs[0] <= outputs[-1] <= 99:
                return False
            if not all(0 <= pair[1] < 10 ** 60 for pair in two):
                return False
        else:
            return False
    return True


def spoilt_texts(text, drawn, many=60):
    """Texts near this one: a sign left out, doubled, exchanged or put in, or parts in another order."""
    signs = " 0123459-:|;,=>abknsx+._\n"
    told = [text + " ", " " + text, text + "\n", text.replace(" ", "  ", 1), text.upper(), text.replace("0", "00", 1),
            text.replace(" ", "", 1), text[:-1], text[1:], text + text, text.replace("1", "+1", 1), "-", ""]
    for _ in range(many):
        at = drawn.randrange(len(text) + 1)
        told += [text[:at] + text[at + 1:], text[:at] + drawn.choice(signs) + text[at:],
                 text[:at] + drawn.choice(signs) + text[at + 1:], text[:at]]
        for sign in (" ", " ; ", " | ", " , "):
            parts = text.split(sign)
            if len(parts) > 1:
                one, other = drawn.randrange(len(parts)), drawn.randrange(len(parts))
                parts[one], parts[other] = parts[other], parts[one]
                told += [sign.join(parts), sign.join(parts[:one] + parts[one + 1:]), sign.join([*parts, parts[one]])]
    return told


class TextsTest(Case):
    def checks(self, read, write, own, values, is_text, many=60):
        """Each value has its text; a spoilt text is refused exactly if no value has it."""
        drawn, refused = Random(127), 0
        for value in values:
            text = own(value)
            self.assertEqual(write(value), text)
            self.assertEqual(read(text), value)
            for other in spoilt_texts(text, drawn, many):
                try:
                    told = read(other)
                except Exception as error:
                    self.assertEqual((type(error), error.at), (ParseError, None), other)
                    self.assertFalse(is_text(other), other)
                    refused += 1
                else:
                    self.assertTrue(is_text(other), other)
                    self.assertEqual(own(told), other)
                    self.assertEqual(write(told), other)
                    self.assertEqual(repr(read(write(told))) if type(told) is tuple else 0,
                                     repr(told) if type(told) is tuple else 0)
        self.assertGreater(refused, 40)
        for value in WRONG:
            if type(value) is not str:
                self.assertIsNone(self.fails(ParseError, read, value).at)

    def test_webs(self):
        self.checks(read_web, write_web, own_web, WEBS[::5] + WEBS[-2:], is_web_text, 20)
        for web in WEBS:
            self.assertEqual((write_web(web), read_web(own_web(web))), (own_web(web), web))
        for value in wrong_where(lambda each: type(each) is Web):
            self.fails(InvalidWeb, write_web, value)

    def test_pools(self):
        self.checks(read_pool, write_pool, lambda pool: " | ".join(own_web(web) for web in pool), POOLS, is_pool_text, 20)
        for value in not_pools():
            self.fails(InvalidPool, write_pool, value)
        for size in (1, 2, 3, 4):
            self.assertEqual(read_pool(write_pool(snap_pool(size))), snap_pool(size))
        many = Pool(tuple(Web(((),), (mark,)) for mark in range(80)))
        self.assertEqual(read_pool(write_pool(many)), many)
        self.fails(ParseError, read_pool, write_pool(many) + " | -:80")
        for text in ("- | -", "1 0 | 0 1", "1 0 | 1 0", "- - | -", "0 0", "- 00", "- 10 -", "-:0", "-:10000",
                     "-:01", ":1", "-:", "-:1:1", "- - - - - -", "0,2", "5"):
            self.assertIsNone(self.fails(ParseError, read_pool, text).at)

    def test_words(self):
        self.checks(read_word, write_word, own_list, WORDS, is_word_text)
        for value in [*WRONG, (80,), (0,) * 7, (True,), (0, -1), [0]]:
            if not (is_int_tuple(value) and len(value) <= 6 and all(0 <= part < 80 for part in value)):
                self.fails(InvalidWord, write_word, value)
        for text in ("80", "0 0 0 0 0 0 0", "00", "-1", "+1", "1  1", "1,1", " ", "--", "- -", "1 -"):
            self.fails(ParseError, read_word, text)

    def test_tasks(self):
        self.checks(read_task, write_task, own_task, TASKS, is_task_text, 20)
        for value in wrong_where(lambda each: type(each) is Task):
            self.fails(InvalidTask, write_task, value)
        for text in ("0 = 0 ; 0 = 1", "1 = 0 ; 0 = 1", "0 = 1 , 0", "0 = 0 , 0", "0 = 100", "10 = 0", "0 1 = 0", "0 =",
                     "0 = ", "= 0", "0=0", "0 = 0 ,", "- = -", "0 = -", "- = 0", "0 = 0 = 0"):
            self.fails(ParseError, read_task, text)

    def test_trees(self):
        self.checks(read_tree, write_tree, own_tree, TREES, is_tree_text, 30)
        for tree in (TREES[0], TREES[3], TREES[2]):
            for value in [*near_values(tree), *WRONG]:
                if looks_like_tree(value):
                    self.assertEqual(write_tree(value), own_tree(value))
                    self.assertEqual(read_tree(write_tree(value)), value)
                else:
                    self.fails(InvalidOperation, write_tree, value)
        for text in ("ask 0 0 > 0:1", "ask 0 0 1=0 > 0:1", "ask 5 0 5=0 > 0:1", "ask 0 0 0=0 > ", "ask 0 0 0=0 > -",
                     "ask 0 0 0=0 > 1:1 0:2", "ask 0 0 0=0 > 100:1", "ask 0 0 1=0 0=0 > 0:1", "ask 0 0 0=10 > 0:1",
                     "stop - | -", "stop 0 | 80", "stop 0", "stop 0 |", "stop 0 | ", "stop 0 0 0 0 0 0 | -", "ask", "stop",
                     "asks 0 0 0=0 > 0:1", "stop 0 0 0 0 0 | 0 0 0 0 0 0 0",
                     "ask 0 0 0=0 5=0 > 0:1", "ask 0 " + "1" * 5000 + " 0=0 > 0:1", "ask", "stop 0 | - ;", "ask 0 " + "1" * 61 + " 0=0 > 0:1", "go 0 | -"):
            self.fails(ParseError, read_tree, text)
        many = tuple([("stop", (0, 1), (2, 3))] * 6000)
        self.assertEqual(read_tree(write_tree(many)), many)

    def test_claims(self):
        self.checks(read_claim, write_claim, own_list, CLAIMS, is_claim_text, 30)
        for claim in CLAIMS:
            for value in [*near_values(claim), *WRONG]:
                if not looks_like_claim(value):
                    self.fails(InvalidOperation, write_claim, value)
        for text in ("agrees", "agrees 1", "agrees A", "agrees a b", "near a 7 1", "near a 0 -1", "near a 0 01",
                     "near a 0 " + "9" * 61, "can a b", "can a b 7", "can a 1 1", "holds a", "near a b 1", "agrees aaaaaaaaa"):
            self.fails(ParseError, read_claim, text)

    def test_rules(self):
        for rule in RULES:
            self.checks(lambda text: read_rule(rule.pool, text), write_rule, own_rule, [rule], lambda text: is_rule_text(rule.pool, text), 40)
        for value in wrong_where(lambda each: type(each) is Rule):
            self.fails(InvalidRule, write_rule, value)
        pool = pair_pool("RLB")
        self.checks_arguments(read_rule, (pool, "0"), ((InvalidPool, not_pools()), None))
        for text in ("7", "01", "-1", "", "0 ;", "0 ; 0 0 > 1", "0 ; 0 0 0=1 > 100", "0 ; 0 0 0=10 > 1", "0 ; 2 0 2=0 > 1",
                     "0 ; 0 1 0=0 > 1", "0 ; 0 0 0=0 1=0 > 1", "1 ; 0 0 0=0 1=0 > 1", "1 ; 0 1 0=0 > 1",
                     "0 ; 1 0 1=0 > 1 ; 0 0 0=0 > 1", "0 ; 0 0 0=0 > 1 ; 0 0 0=0 > 1", "0 ; 0 0 0=0 > 1 ; 0 0 0=0 > 2",
                     "0 ; 0 0 1=0 > 1", "1 ; 0 1 0=0 2=0 > 1", "0 ; 0 00 0=0 > 1", "0 ; 0 0 0=0 > 1 > 2"):
            self.assertIsNone(self.fails(ParseError, read_rule, pool, text).at)
        self.assertEqual(len(read_rule(pool, "1 ; 0 0 0=0 > 1 ; 0 1 0=0 1=0 > 1")), 2)

    def test_rules_with_too_many_words(self):
        wide = snap_pool(4)
        for text in ("2", "2 ; 0 0 0=0 > 1", "6 ; 3 0 3=0 > 1"):
            self.fails_keeping(TooMany, 3000, read_rule, wide, text)
        self.fails(ParseError, read_rule, star_pool(3), "6 ; 0 1 0=0 3=0 > 1")
        for text in ("7", "2 ; 0 0 0=0 > 100", "2 ; 0 0 0=0 4=0 > 1", "2 ; 4 0 4=0 > 1", "2 ; 0 0 1=0 > 1", "2 ; 1 0 1=0 > 1 ; 0 0 0=0 > 1", None,
                     "2 ; 0 0 0=0 > 01"):
            self.fails(ParseError, read_rule, wide, text)

    def test_numbers_of_texts(self):
        for number in (0, 9, 10, 79):
            self.assertEqual(read_word(str(number)), (number,))
            self.assertTrue(is_int(read_word(str(number))[0]))
