"""Texts of webs, pools, words, tasks, rules, trees and claims."""

from poolmaps.base.checks import GREATEST, are_numbers, is_climbing, is_number, is_pair
from poolmaps.base.pools import MAX_WEBS, Pool, check_pool
from poolmaps.base.webs import MAX_THREADS, Web
from poolmaps.desk.claims import is_claim
from poolmaps.errors import (
    InvalidOperation, InvalidPool, InvalidRule, InvalidTask, InvalidWeb, InvalidWord, ParseError,
)
from poolmaps.known.sights import MAX_INPUT, check_few_words
from poolmaps.known.words import MAX_ROUNDS
from poolmaps.tasks.rules import Rule, check_rule
from poolmaps.tasks.tasks import MAX_OUTPUT, Task, check_task
from poolmaps.text.writers import (
    entry_text, entry_told, list_text, listed, node_text, node_told, number_told, numbers_told, rights_text,
    rights_told, web_text, web_told,
)


def is_plain_word(value):
    """Whether the value is a word of some pool."""
    return are_numbers(value, 0, MAX_WEBS - 1) and len(value) <= MAX_ROUNDS


def is_plain_view(value, size):
    """Whether the value has the form of a view of one of so many threads."""
    if not isinstance(value, tuple) or len(value) != 3 or not is_number(value[0], 0, size - 1):
        return False
    if not is_number(value[1], 0, GREATEST) or not isinstance(value[2], tuple):
        return False
    if not all([is_pair(pair) and are_numbers(pair, 0, MAX_INPUT) and pair[0] < size for pair in value[2]]):
        return False
    threads = [pair[0] for pair in value[2]]
    return is_climbing(threads) and value[0] in threads


def are_plain_branches(value):
    """Whether the value is a tuple of one or more pairs (output, index), by ascending outputs."""
    if not isinstance(value, tuple) or not value:
        return False
    if not all([is_pair(pair) and are_numbers(pair, 0, GREATEST) and pair[0] <= MAX_OUTPUT for pair in value]):
        return False
    return is_climbing([pair[0] for pair in value])


def is_plain_node(value):
    """Whether the value has the form of a node of a refusal."""
    if not isinstance(value, tuple) or len(value) != 3:
        return False
    if value[0] == "ask":
        return is_plain_view(value[1], MAX_THREADS) and are_plain_branches(value[2])
    if value[0] != "stop" or not are_numbers(value[1], 0, MAX_INPUT):
        return False
    return 1 <= len(value[1]) <= MAX_THREADS and is_plain_word(value[2])


def is_tree(value):
    """Whether the value is a tuple of one or more nodes."""
    return isinstance(value, tuple) and len(value) > 0 and all([is_plain_node(node) for node in value])


def write_web(web):
    """The text of a web."""
    if not isinstance(web, Web):
        raise InvalidWeb("this is no web")
    return web_text(web.heard, web.marks)


def write_pool(pool):
    """The text of a pool."""
    check_pool(pool)
    return " | ".join([write_web(web) for web in pool.webs])


def write_word(word):
    """The text of a word."""
    if not is_plain_word(word):
        raise InvalidWord("this is no word")
    return list_text(word)


def write_task(task):
    """The text of a task."""
    check_task(task)
    return " ; ".join([rights_text(row, rights) for row, rights in task.table.items()])


def write_rule(rule):
    """The text of a rule."""
    check_rule(rule)
    return rule_text(rule.rounds, list(rule.table.items()))


def rule_text(rounds, entries):
    """The text of a rule with these pairs of a view and an output."""
    return " ; ".join([str(rounds), *[entry_text(view, output) for view, output in entries]])


def write_tree(tree):
    """The text of a tree."""
    if not is_tree(tree):
        raise InvalidOperation("this has not the form of a tree")
    return " ; ".join([node_text(node) for node in tree])


def write_claim(claim):
    """The text of a claim."""
    if not is_claim(claim):
        raise InvalidOperation("this has not the form of a claim")
    return list_text(claim)


def check_text(text):
    """Raises ParseError for anything but a string."""
    if not isinstance(text, str):
        raise ParseError(None)


def check_same(text, told):
    """Raises ParseError if the text is not the one that the value has."""
    if text != told:
        raise ParseError(None)


def new_web(told):
    """The web of a pair of who hears whom and the marks."""
    try:
        return Web(told[0], told[1])
    except InvalidWeb:
        raise ParseError(None) from None


def new_pool(webs):
    """The pool of these webs."""
    try:
        return Pool(webs)
    except InvalidPool:
        raise ParseError(None) from None


def new_task(table):
    """The task with this table."""
    try:
        return Task(table)
    except InvalidTask:
        raise ParseError(None) from None


def new_rule(pool, rounds, outputs):
    """The rule with these outputs."""
    try:
        return Rule(pool, rounds, outputs)
    except InvalidRule:
        raise ParseError(None) from None


def read_web(text):
    """The web with this text."""
    check_text(text)
    web = new_web(web_told(text))
    check_same(text, write_web(web))
    return web


def read_pool(text):
    """The pool with this text."""
    check_text(text)
    pool = new_pool(tuple([new_web(web_told(part)) for part in text.split(" | ")]))
    check_same(text, write_pool(pool))
    return pool


def read_word(text):
    """The word with this text."""
    check_text(text)
    word = numbers_told(text)
    if not is_plain_word(word):
        raise ParseError(None)
    check_same(text, write_word(word))
    return word


def read_task(text):
    """The task with this text."""
    check_text(text)
    rows = [rights_told(part) for part in text.split(" ; ")]
    task = new_task({row: rights for row, rights in rows})
    check_same(text, write_task(task))
    return task


def read_tree(text):
    """The tree with this text."""
    check_text(text)
    tree = tuple([node_told(part) for part in text.split(" ; ")])
    if not is_tree(tree):
        raise ParseError(None)
    check_same(text, write_tree(tree))
    return tree


def member_told(text):
    """The integer, or else the word, that is told."""
    number = number_told(text)
    return text if number is None else number


def read_claim(text):
    """The claim with this text."""
    check_text(text)
    claim = tuple([member_told(part) for part in listed(text)])
    if not is_claim(claim):
        raise ParseError(None)
    check_same(text, write_claim(claim))
    return claim


def is_plain_entry(value, size):
    """Whether the value is a pair of a view of one of so many threads and an output."""
    return is_plain_view(value[0], size) and is_number(value[1], 0, MAX_OUTPUT)


def read_rule(pool, text):
    """The rule for the pool with this text."""
    check_pool(pool)
    check_text(text)
    first, *parts = text.split(" ; ")
    rounds = number_told(first)
    entries = [entry_told(part) for part in parts]
    if not is_number(rounds, 0, MAX_ROUNDS) or not all([is_plain_entry(entry, pool.size) for entry in entries]):
        raise ParseError(None)
    if not is_climbing([view for view, _ in entries]):
        raise ParseError(None)
    check_same(text, rule_text(rounds, entries))
    check_few_words(pool, rounds)
    return new_rule(pool, rounds, {view: output for view, output in entries})
