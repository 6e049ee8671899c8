"""The commands of a shell: their forms, and what they do with a desk."""

from poolmaps.base.checks import GREATEST
from poolmaps.base.pools import Pool, snap_pool
from poolmaps.errors import InvalidOperation
from poolmaps.groups.bars import least_rounds
from poolmaps.known.lots import lots_of
from poolmaps.near.limits import near_limit
from poolmaps.plays.plays import can_play
from poolmaps.tasks.rules import Rule, does
from poolmaps.tasks.search import can_do, refusal_or_none, rule_or_none
from poolmaps.tasks.tasks import Task, agreement_task, near_task
from poolmaps.text.texts import (
    read_claim, read_pool, read_task, write_claim, write_pool, write_rule, write_task, write_tree,
)
from poolmaps.text.writers import MAX_DIGITS

FORMS = {
    "pool": ("name", "rest"), "snap": ("name", "number"), "task": ("name", "rest"), "agreement": ("name", "number"),
    "near": ("name", "number", "number"), "rule": ("name", "name", "name", "number"), "take": ("name",),
    "demand": ("rest",), "waive": ("rest",), "undo": (), "redo": (), "show": ("name",), "told": (), "claims": (),
    "rounds": ("name",), "limit": ("name", "number"), "lots": ("name", "number"), "can": ("name", "name", "number"),
    "refusal": ("name", "name", "number"), "does": ("name", "name"), "plays": ("name", "name", "number"),
}


def is_number_text(word):
    """Whether the word is the text of an integer."""
    return word.isascii() and word.isdecimal() and (word == "0" or word[0] != "0")


def number_in(word):
    """The integer of a text; one that is too long is as good as any other one that is."""
    return int(word) if len(word) <= MAX_DIGITS else GREATEST + 1


def command_told(line):
    """The list of a command's word and its arguments, or None for a line that is no command."""
    words = line.split(" ") if isinstance(line, str) else [""]
    if "" in words or words[0] not in FORMS:
        return None
    told = [words[0]]
    forms, left = FORMS[words[0]], words[1:]
    if "rest" in forms and len(left) >= len(forms):
        left = [*left[:len(forms) - 1], " ".join(left[len(forms) - 1:])]
    if len(left) != len(forms):
        return None
    for form, word in zip(forms, left):
        if form == "number" and not is_number_text(word):
            return None
        told.append(number_in(word) if form == "number" else word)
    return told


def value_text(value):
    """The text of an answer that is a number, or None, or whether something is so."""
    if value is None:
        return "none"
    if value is True or value is False:
        return "yes" if value else "no"
    return str(value)


def joined_texts(texts):
    """Several answers as one."""
    return "; ".join(texts) if texts else "nothing"


def tellings_text(pairs):
    """The text of pairs of a name and what is told of it."""
    return joined_texts([f"{name} {value_text(telling)}" for name, telling in pairs])


def pool_entry(desk, name):
    """The pool with a name."""
    value = desk[name]
    if not isinstance(value, Pool):
        raise InvalidOperation("this entry is no pool")
    return value


def task_entry(desk, name):
    """The task with a name."""
    value = desk[name]
    if not isinstance(value, Task):
        raise InvalidOperation("this entry is no task")
    return value


def rule_entry(desk, name):
    """The rule with a name."""
    value = desk[name]
    if not isinstance(value, Rule):
        raise InvalidOperation("this entry is no rule")
    return value


def put_pool(desk, name, text):
    """Puts a pool by its text."""
    pool = read_pool(text)
    return tellings_text(desk.put(name, pool))


def put_snap(desk, name, size):
    """Puts a snap pool."""
    pool = snap_pool(size)
    return tellings_text(desk.put(name, pool))


def put_task(desk, name, text):
    """Puts a task by its text."""
    task = read_task(text)
    return tellings_text(desk.put(name, task))


def put_agreement(desk, name, size):
    """Puts an agreement task."""
    task = agreement_task(size)
    return tellings_text(desk.put(name, task))


def put_near(desk, name, size, most):
    """Puts a near agreement task."""
    task = near_task(size, most)
    return tellings_text(desk.put(name, task))


def put_rule(desk, name, host, doing, rounds):
    """Puts any rule for a pool that does a task."""
    pool, task = pool_entry(desk, host), task_entry(desk, doing)
    rule = rule_or_none(pool, task, rounds)
    return "cannot" if rule is None else tellings_text(desk.put(name, rule))


def take_entry(desk, name):
    """Takes an entry away."""
    return tellings_text(desk.take(name))


def demand_claim(desk, text):
    """Adds a claim."""
    claim = read_claim(text)
    return tellings_text(desk.demand(claim))


def waive_claim(desk, text):
    """Takes a claim away."""
    claim = read_claim(text)
    return tellings_text(desk.waive(claim))


def undo_change(desk):
    """Takes the last change back."""
    return tellings_text(desk.undo())


def redo_change(desk):
    """Does a change again."""
    return tellings_text(desk.redo())


def show_entry(desk, name):
    """The text of an entry."""
    value = desk[name]
    if isinstance(value, Pool):
        return write_pool(value)
    return write_task(value) if isinstance(value, Task) else write_rule(value)


def told_names(desk):
    """The names of the entries with what is told of them."""
    return tellings_text(list(desk.told.items()))


def told_claims(desk):
    """The texts of the claims."""
    return joined_texts([write_claim(claim) for claim in desk.claims])


def rounds_for(desk, name):
    """The least number of rounds in which a pool can agree."""
    return value_text(least_rounds(pool_entry(desk, name)))


def limit_of(desk, name, rounds):
    """The near limit of a pool."""
    return value_text(near_limit(pool_entry(desk, name), rounds))


def lots_in(desk, name, rounds):
    """The number of the lots of a pool."""
    return value_text(len(lots_of(pool_entry(desk, name), rounds)))


def can_be_done(desk, host, doing, rounds):
    """Whether a task can be done with a pool."""
    pool, task = pool_entry(desk, host), task_entry(desk, doing)
    return value_text(can_do(pool, task, rounds))


def refusal_text(desk, host, doing, rounds):
    """The text of any refusal."""
    pool, task = pool_entry(desk, host), task_entry(desk, doing)
    tree = refusal_or_none(pool, task, rounds)
    return value_text(tree) if tree is None else write_tree(tree)


def does_it(desk, name, doing):
    """Whether a rule does a task."""
    rule, task = rule_entry(desk, name), task_entry(desk, doing)
    return value_text(does(rule, task))


def plays_it(desk, name, other, rounds):
    """Whether a pool can be played in another one, which stands first."""
    host, guest = pool_entry(desk, name), pool_entry(desk, other)
    return value_text(can_play(host, guest, rounds))


ACTIONS = {
    "pool": put_pool, "snap": put_snap, "task": put_task, "agreement": put_agreement, "near": put_near,
    "rule": put_rule, "take": take_entry, "demand": demand_claim, "waive": waive_claim, "undo": undo_change,
    "redo": redo_change, "show": show_entry, "told": told_names, "claims": told_claims, "rounds": rounds_for,
    "limit": limit_of, "lots": lots_in, "can": can_be_done, "refusal": refusal_text, "does": does_it,
    "plays": plays_it,
}


def done(desk, told):
    """The answer to a command."""
    word, *rest = told
    action = ACTIONS[word]
    return action(desk, *rest)
