"""The desk, against a record of the tests' own behind drawn histories."""

from random import Random

from poolmaps.base.pools import Pool, pair_pool, snap_pool, star_pool
from poolmaps.base.webs import full_web, silent_web
from poolmaps.desk.desk import MAX_CLAIMS, MAX_ENTRIES, Desk
from poolmaps.errors import (
    InvalidName, InvalidNumber, InvalidOperation, InvalidPool, InvalidTask, NothingToUndo, Refused, TooMany,
    UnknownName,
)
from poolmaps.near.limits import near_limit
from poolmaps.tasks.rules import Rule, does
from poolmaps.tasks.search import can_do, made_rule
from poolmaps.tasks.tasks import Task, agreement_task, near_task
from tests.reckoning import slow_common_roots, slow_steps
from tests.support import WRONG, Case, is_int, near_values, not_numbers, wrong_where

NEAR, AGREE = near_task(2, 3), agreement_task(2)
RULE = made_rule(snap_pool(2), NEAR, 1)
VALUES = [
    pair_pool("RL"), pair_pool("RLB"), pair_pool("R"), snap_pool(2), star_pool(3), NEAR, AGREE, near_task(2, 1),
    agreement_task(3), RULE, made_rule(pair_pool("RL"), AGREE, 1), Rule(pair_pool("RL"), 2, {}), pair_pool("BN"),
]
FORMS = {
    "agrees": "n", "never": "n", "within": "nn", "can": "nnr", "does": "nn", "near": "nrm",
}


def looks_like_name(value):
    return type(value) is str and 1 <= len(value) <= 8 and all(letter in "abcdefghijklmnopqrstuvwxyz" for letter in value)


def looks_like_claim(value):
    if type(value) is not tuple or not value or type(value[0]) is not str or value[0] not in FORMS:
        return False
    form = FORMS[value[0]]
    return len(value) == 1 + len(form) and all(
        looks_like_name(part) if kind == "n" else is_int(part) and 0 <= part <= (6 if kind == "r" else 10 ** 60 - 1)
        for kind, part in zip(form, value[1:]))


def telling(value):
    if type(value) is Pool:
        return "agrees" if all(slow_common_roots(value, group) for group in slow_steps(value)[-1]) else "never"
    return len(value.rows) if type(value) is Task else value.rounds


def is_true(claim, entries):
    """Whether a claim holds; errors of deciding it are raised."""
    word, *rest = claim
    if not all(name in entries for name in rest if type(name) is str):
        return False
    told = [entries[part] if type(part) is str else part for part in rest]
    kinds = [type(value) for value in told]
    if word in ("agrees", "never"):
        return kinds == [Pool] and telling(told[0]) == word
    if word == "within":
        if kinds == [Pool, Pool]:
            return told[0].is_within(told[1])
        return kinds == [Task, Task] and told[0].is_easier(told[1])
    if word == "can":
        return kinds == [Pool, Task, int] and can_do(*told)
    if word == "does":
        return kinds == [Rule, Task] and does(*told)
    if kinds != [Pool, int, int]:
        return False
    limit = near_limit(told[0], told[1])
    return limit is None or limit >= told[2]


class Record:
    """What a desk is, told by whole copies of all stands."""

    def __init__(self):
        self.line, self.at = [({}, ())], 0

    @property
    def now(self):
        return self.line[self.at]

    def news(self, elder):
        one = {name: telling(value) for name, value in elder[0].items()}
        two = {name: telling(value) for name, value in self.now[0].items()}
        return tuple((name, two.get(name)) for name in sorted({*one, *two}) if one.get(name) != two.get(name))

    def change(self, entries, claims):
        """The news of a change; raises what stands against it."""
        for claim in claims:
            if not is_true(claim, entries):
                raise Refused(claim)
        elder = self.now
        self.line = [*self.line[:self.at + 1], (entries, claims)]
        self.at += 1
        return self.news(elder)

    def put(self, name, value):
        entries, claims = self.now
        if name not in entries and len(entries) == 8:
            raise TooMany(8)
        return self.change({**entries, name: value}, claims)

    def take(self, name):
        entries, claims = self.now
        if name not in entries:
            raise UnknownName(name)
        return self.change({each: told for each, told in entries.items() if each != name}, claims)

    def revise(self, name, change):
        if name not in self.now[0]:
            raise UnknownName(name)
        return self.put(name, change(self.now[0][name]))

    def demand(self, claim):
        entries, claims = self.now
        if claim in claims:
            raise InvalidOperation("there already")
        for name in claim[1:]:
            if type(name) is str and name not in entries:
                raise UnknownName(name)
        if len(claims) == 8:
            raise TooMany(8)
        return self.change(entries, (*claims, claim))

    def waive(self, claim):
        entries, claims = self.now
        if claim not in claims:
            raise InvalidOperation("not there")
        return self.change(entries, tuple(each for each in claims if each != claim))

    def undo(self, many):
        if many > self.at:
            raise NothingToUndo(many)
        elder, self.at = self.now, self.at - many
        return self.news(elder)

    def redo(self, many):
        if self.at + many >= len(self.line):
            raise NothingToUndo(many)
        elder, self.at = self.now, self.at + many
        return self.news(elder)


def told_of(error):
    """An error with what it keeps."""
    return (type(error), [getattr(error, name, None) for name in ("claim", "limit", "wanted", "many", "given")])


class DeskTest(Case):
    def checks(self, desk, record):
        entries, claims = record.now
        self.assertEqual((desk.names, desk.claims, list(desk)), (tuple(sorted(entries)), claims, sorted(entries)))
        self.assertEqual(list(desk.told.items()), [(name, telling(entries[name])) for name in sorted(entries)])
        self.assertEqual((len(desk), str(desk)), (len(entries), f"desk of {len(entries)} entries, {len(claims)} claims"))
        for name, value in entries.items():
            self.assertIs(desk[name], value)
            self.assertIn(name, desk)
        for claim in claims:
            self.assertIn(claim, desk)

    def both(self, one, other):
        """Both calls return the same, or raise the same."""
        told = []
        for call in (one, other):
            try:
                told.append(("value", call()))
            except Exception as error:
                told.append(told_of(error))
        self.assertEqual(told[0], told[1])
        return told[0]

    def drawn_claim(self, drawn):
        names = [drawn.choice("abcdefghij") for _ in range(2)]
        return drawn.choice([
            ("agrees", names[0]), ("never", names[0]), ("within", *names), ("can", *names, drawn.randrange(3)),
            ("does", *names), ("near", names[0], drawn.randrange(3), drawn.randrange(11))])

    def test_drawn_histories(self):
        drawn, told = Random(113), {}
        for _ in range(60):
            desk, record = Desk(), Record()
            for _ in range(45):
                choice, name = drawn.randrange(12), drawn.choice("abcdefghij")
                value, claim, many = drawn.choice(VALUES), self.drawn_claim(drawn), drawn.randrange(4)
                if choice < 4:
                    result = self.both(lambda: desk.put(name, value), lambda: record.put(name, value))
                elif choice == 4:
                    result = self.both(lambda: desk.take(name), lambda: record.take(name))
                elif choice == 5:
                    result = self.both(
                        lambda: desk.revise(name, lambda _: value), lambda: record.revise(name, lambda _: value))
                elif choice < 9:
                    result = self.both(lambda: desk.demand(claim), lambda: record.demand(claim))
                elif choice == 9:
                    known = drawn.choice([claim, *desk.claims])
                    result = self.both(lambda: desk.waive(known), lambda: record.waive(known))
                elif choice == 10:
                    result = self.both(lambda: desk.undo(many=many), lambda: record.undo(many))
                else:
                    result = self.both(lambda: desk.redo(many=many), lambda: record.redo(many))
                told[result[0]] = told.get(result[0], 0) + 1
                self.checks(desk, record)
                if drawn.random() < 0.1:
                    self.goes_on_by_itself(desk, record)
        for error in (Refused, UnknownName, NothingToUndo, InvalidOperation, "value"):
            self.assertGreater(told.get(error, 0), 3, error)
        self.assertTrue({InvalidPool, InvalidTask} & set(told))

    def goes_on_by_itself(self, desk, record):
        """Twins and calls with the desk leave it as it is, with all that can be taken back and done again."""
        twin = desk.twin()
        self.assertTrue(twin == desk)
        self.assertEqual(twin.undo(many=record.at), self.news_between(record, record.at, 0))
        self.assertEqual(twin.redo(many=len(record.line) - 1), self.news_between(record, 0, len(record.line) - 1))
        self.checks(desk, record)

        def spoil(each):
            each.undo(many=record.at)
            each.put("spoilt", VALUES[0])
            raise KeyError("spoilt")

        self.fails(KeyError, desk.during, spoil)
        self.assertEqual(desk.during(lambda each: (each is desk, each.undo(many=record.at), len(each)))[::2], (True, 0))
        self.checks(desk, record)

    def news_between(self, record, one, other):
        whole = Record()
        whole.line, whole.at = record.line, other
        return whole.news(record.line[one])

    def test_constants_and_errors(self):
        self.assertEqual((MAX_ENTRIES, MAX_CLAIMS), (8, 8))
        desk = Desk()
        names = (InvalidName, wrong_where(looks_like_name, "aB", "a1", "a b", "abcdefghi", " ", "a\n"))
        values = (InvalidOperation, wrong_where(lambda value: type(value) in (Pool, Task, Rule)))
        self.checks_arguments(desk.put, ("a", VALUES[0]), (names, values))
        for name in wrong_where(lambda value: False, "b", "z"):
            self.fails_keeping(UnknownName, name, desk.take, name)
            self.fails_keeping(UnknownName, name, desk.revise, name, lambda value: value)
            self.fails_keeping(UnknownName, name, desk.__getitem__, name)
            self.assertIs(name in desk, False)
        self.assertEqual((desk.told, desk.claims), ({}, ()))
        self.fails_keeping(NothingToUndo, 1, desk.undo)
        for at in range(8):
            self.assertEqual(desk.put("abcdefgh"[at], VALUES[at]), (("abcdefgh"[at], telling(VALUES[at])),))
        self.fails_keeping(TooMany, 8, desk.put, "i", VALUES[0])
        self.assertEqual(desk.twin().take("a") and desk.twin().during(lambda each: (each.take("a"), each.put(
            "abcdefgh", VALUES[0]))[1]), (("abcdefgh", "agrees"),))
        self.fails(InvalidOperation, desk.put, "i", None)
        self.assertEqual(desk.put("a", VALUES[0]), ())
        for value in values[1]:
            self.fails(InvalidOperation, desk.revise, "a", lambda _: value)
        self.fails(ZeroDivisionError, desk.revise, "a", lambda value: 1 // 0)
        for call in (desk.undo, desk.redo):
            for many in not_numbers(0, 10 ** 60 - 1):
                self.fails_keeping(InvalidNumber, many, call, many=many)
            self.assertEqual(call(many=0), ())
        self.fails_keeping(NothingToUndo, 10, desk.undo, many=10)
        self.fails_keeping(NothingToUndo, 1, desk.redo)
        self.assertEqual(len(desk.undo(many=9)), 8)
        self.fails_keeping(NothingToUndo, 10, desk.redo, many=10)
        self.assertEqual(len(desk.redo(many=9)), 8)

    def test_claims(self):
        desk = Desk()
        for at in range(6):
            desk.put("abcdef"[at], [*VALUES[:4], NEAR, RULE][at])
        right = [("agrees", "a"), ("never", "b"), ("within", "a", "b"), ("can", "b", "e", 1), ("does", "f", "e"),
                 ("near", "b", 1, 3), ("near", "a", 6, 10 ** 60 - 1), ("within", "e", "e")]
        for claim in right:
            for value in near_values(claim):
                if not looks_like_claim(value):
                    self.fails(InvalidOperation, desk.demand, value)
                    self.fails(InvalidOperation, desk.waive, value)
                    self.assertIs(value in desk, False)
        for value in WRONG:
            self.fails(InvalidOperation, desk.demand, value)
            self.fails(InvalidOperation, desk.waive, value)
        for at, claim in enumerate(right):
            self.assertEqual(desk.demand(claim), ())
            self.fails(InvalidOperation, desk.demand, claim)
            self.assertEqual(desk.claims, tuple(right[:at + 1]))
        for claim in right:
            for value in near_values(claim):
                if not looks_like_claim(value):
                    self.assertIs(value in desk, False)
                    self.fails(InvalidOperation, desk.waive, value)
        self.fails_keeping(UnknownName, "x", desk.demand, ("within", "x", "y"))
        self.fails_keeping(UnknownName, "y", desk.demand, ("within", "a", "y"))
        self.fails_keeping(TooMany, 8, desk.demand, ("agrees", "b"))
        # The first claim, in the order of demands, that would not hold.
        self.fails_keeping(Refused, ("agrees", "a"), desk.take, "a")
        self.fails_keeping(Refused, ("never", "b"), desk.take, "b")
        self.fails_keeping(Refused, ("can", "b", "e", 1), desk.take, "e")
        self.fails_keeping(Refused, ("does", "f", "e"), desk.put, "f", NEAR)
        self.fails_keeping(Refused, ("never", "b"), desk.put, "b", RULE)
        self.fails(InvalidPool, desk.put, "b", snap_pool(3))
        self.fails(InvalidOperation, desk.put, "e", near_task(3, 1))
        self.assertEqual(desk.waive(("never", "b")), ())
        self.fails_keeping(Refused, ("within", "a", "b"), desk.put, "b", NEAR)
        self.fails_keeping(Refused, ("agrees", "b"), desk.demand, ("agrees", "b"))
        self.fails_keeping(Refused, ("within", "a", "e"), desk.demand, ("within", "a", "e"))
        desk.put("g", Pool(tuple(silent_web(2).with_mark(0, mark) for mark in range(60))))
        self.fails_keeping(TooMany, 3000, desk.demand, ("near", "g", 2, 0))
        desk.put("h", pair_pool("RLBN"))
        self.fails_keeping(TooMany, 4000, desk.demand, ("near", "h", 5, 1))
        self.assertEqual(len(desk.claims), 7)

    def test_refused_calls_change_nothing(self):
        desk = Desk()
        desk.put("a", pair_pool("RL"))
        desk.demand(("agrees", "a"))
        desk.put("b", NEAR)
        desk.undo()
        for call in (lambda: desk.put("a", pair_pool("RLB")), lambda: desk.take("a"), lambda: desk.take("c"),
                     lambda: desk.demand(("never", "a")), lambda: desk.waive(("never", "a")), lambda: desk.put("a", 1),
                     lambda: desk.revise("a", lambda pool: pool.with_web(full_web(2))), lambda: desk.undo(many=9)):
            self.assertRaises(Exception, call)
        self.assertEqual(desk.redo(), (("b", 4),))

    def test_changes_that_change_the_desk_themselves(self):
        desk = Desk()
        desk.put("a", pair_pool("RL"))
        news = desk.revise("a", lambda pool: (desk.put("b", NEAR), pool.with_web(full_web(2)))[1])
        self.assertEqual(news, (("a", "never"), ("b", 4)))
        self.assertEqual([desk.undo(), desk.undo(), desk.redo(many=2)], [
            (("a", "agrees"),), (("b", None),), (("a", "never"), ("b", 4))])
        inner = desk.during(lambda one: one.during(lambda two: two.take("b")))
        self.assertEqual((inner, desk.names), ((("b", None),), ("a", "b")))

    def test_equality(self):
        one, other = Desk(), Desk()
        one.put("a", pair_pool("RL"))
        self.assertFalse(one == other)
        other.put("b", NEAR)
        other.put("a", pair_pool("RL"))
        other.take("b")
        self.assertTrue(one == other and not one != other)
        for desk, claims in ((one, ("agrees", "near")), (other, ("near", "agrees"))):
            for word in claims:
                desk.demand((word, "a") if word == "agrees" else (word, "a", 1, 3))
        self.assertTrue(one != other)
        for value in WRONG:
            self.assertIs(one == value, False)
        one.told.clear()
        self.assertEqual(one.told, {"a": "agrees"})
