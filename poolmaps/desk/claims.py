"""Claims about pools, tasks and rules under names, and what is told of these."""

from poolmaps.base.checks import GREATEST, is_number
from poolmaps.base.pools import Pool
from poolmaps.groups.closed import can_agree
from poolmaps.known.words import MAX_ROUNDS
from poolmaps.near.limits import near_limit
from poolmaps.tasks.rules import Rule, does
from poolmaps.tasks.search import can_do
from poolmaps.tasks.tasks import Task

MAX_NAME = 8
LETTERS = "abcdefghijklmnopqrstuvwxyz"
FORMS = {
    "agrees": ("name",), "never": ("name",), "within": ("name", "name"), "can": ("name", "name", "rounds"),
    "does": ("name", "name"), "near": ("name", "rounds", "most"),
}


def is_name(value):
    """Whether the value is a string of one to eight letters."""
    if not isinstance(value, str) or not 1 <= len(value) <= MAX_NAME:
        return False
    return all([letter in LETTERS for letter in value])


def is_member(value, form):
    """Whether the value can stand in a claim where its form has this."""
    if form == "name":
        return is_name(value)
    return is_number(value, 0, MAX_ROUNDS if form == "rounds" else GREATEST)


def is_claim(value):
    """Whether the value has the form of a claim."""
    if not isinstance(value, tuple) or not value or not isinstance(value[0], str) or value[0] not in FORMS:
        return False
    forms = FORMS[value[0]]
    if len(value) != 1 + len(forms):
        return False
    return all([is_member(part, form) for part, form in zip(value[1:], forms)])


def names_in_claim(claim):
    """The list of the names in a claim, in order."""
    return [part for part in claim[1:] if isinstance(part, str)]


def telling_of(value):
    """What is told of a pool, a task or a rule."""
    if isinstance(value, Pool):
        return "agrees" if can_agree(value) else "never"
    return len(value) if isinstance(value, Task) else value.rounds


def is_inside(one, other):
    """Whether one pool is within another one, or one task easier than another one."""
    if isinstance(one, Pool) and isinstance(other, Pool):
        return one.is_within(other)
    return isinstance(one, Task) and isinstance(other, Task) and one.is_easier(other)


def is_near_enough(pool, rounds, most):
    """Whether the near limit of a pool is none, or at least this number."""
    limit = near_limit(pool, rounds)
    return limit is None or limit >= most


def holds(claim, entries, tellings):
    """Whether a claim holds, by the dicts of all entries and of what is told of them."""
    if not all([name in entries for name in names_in_claim(claim)]):
        return False
    word, first = claim[0], entries[claim[1]]
    if word in ("agrees", "never"):
        return tellings[claim[1]] == word
    if word == "within":
        return is_inside(first, entries[claim[2]])
    if word == "can":
        task = entries[claim[2]]
        return isinstance(first, Pool) and isinstance(task, Task) and can_do(first, task, claim[3])
    if word == "does":
        task = entries[claim[2]]
        return isinstance(first, Rule) and isinstance(task, Task) and does(first, task)
    return isinstance(first, Pool) and is_near_enough(first, claim[2], claim[3])
