"""The shell's answers, by a desk with the same changes."""

from random import Random
from time import process_time

from poolmaps.base.pools import snap_pool
from poolmaps.desk.desk import Desk
from poolmaps.errors import (
    InvalidName, InvalidNumber, InvalidOperation, InvalidPool, InvalidTask, NothingToUndo, ParseError, Refused,
    TooMany, UnknownName,
)
from poolmaps.groups.bars import least_rounds
from poolmaps.known.lots import lots_of
from poolmaps.near.limits import near_limit
from poolmaps.plays.plays import made_play
from poolmaps.tasks.rules import does
from poolmaps.tasks.search import can_do, is_refusal, made_rule
from poolmaps.tasks.tasks import agreement_task, near_task
from poolmaps.text.shell import Shell
from poolmaps.text.texts import (
    read_claim, read_pool, read_task, read_tree, write_claim, write_pool, write_rule, write_task,
)
from tests.support import WRONG, Case

WORDS = {
    InvalidName: "name", UnknownName: "unknown", InvalidOperation: "operation", InvalidPool: "operation",
    InvalidTask: "operation", ParseError: "text", InvalidNumber: "number", NothingToUndo: "undo",
}
TOLD = [
    "pool two - 0 | 1 -", "snap snap 2", "agreement same 2", "near close 2 3", "rule both two same 1",
    "rule step snap close 1",
]


def plain(value):
    if value is None:
        return "none"
    return {True: "yes", False: "no"}[value] if type(value) is bool else str(value)


def news(pairs):
    return "; ".join(f"{name} {plain(told)}" for name, told in pairs) or "nothing"


class Twin:
    """A desk of the tests' own, that answers as the document tells."""

    def __init__(self):
        self.desk, self.answered = Desk(), 0

    def entry(self, name, kind):
        value = self.desk[name]
        if type(value).__name__ != kind:
            raise InvalidOperation("another kind")
        return value

    def number(self, word):
        if not word or not all(figure in "0123456789" for figure in word) or (len(word) > 1 and word[0] == "0"):
            raise ValueError("no command")
        return int(word)

    def told(self, line):
        """The answer to a line; ValueError for no command."""
        if type(line) is not str or "" in line.split(" "):
            raise ValueError("no command")
        word, *rest = line.split(" ")
        many = len(rest)
        if word in ("pool", "task") and many > 1:
            value = (read_pool if word == "pool" else read_task)(" ".join(rest[1:]))
            return news(self.desk.put(rest[0], value))
        if word in ("demand", "waive") and many:
            claim = read_claim(" ".join(rest))
            return news(self.desk.demand(claim) if word == "demand" else self.desk.waive(claim))
        if (word, many) in (("snap", 2), ("agreement", 2), ("near", 3)):
            numbers = [self.number(each) for each in rest[1:]]
            call = {"snap": snap_pool, "agreement": agreement_task, "near": near_task}[word]
            return news(self.desk.put(rest[0], call(*numbers)))
        if (word, many) == ("take", 1):
            return news(self.desk.take(rest[0]))
        if (word, many) in (("undo", 0), ("redo", 0)):
            return news(self.desk.undo() if word == "undo" else self.desk.redo())
        if (word, many) == ("told", 0):
            return news(self.desk.told.items())
        if (word, many) == ("claims", 0):
            return "; ".join(write_claim(claim) for claim in self.desk.claims) or "nothing"
        if (word, many) == ("show", 1):
            value = self.desk[rest[0]]
            return {"Pool": write_pool, "Task": write_task, "Rule": write_rule}[type(value).__name__](value)
        if (word, many) == ("rounds", 1):
            return plain(least_rounds(self.entry(rest[0], "Pool")))
        if (word, many) in (("limit", 2), ("lots", 2)):
            rounds = self.number(rest[1])
            pool = self.entry(rest[0], "Pool")
            return plain(near_limit(pool, rounds) if word == "limit" else len(lots_of(pool, rounds)))
        if (word, many) == ("does", 2):
            rule, task = self.entry(rest[0], "Rule"), self.entry(rest[1], "Task")
            return plain(does(rule, task))
        if (word, many) in (("rule", 4), ("can", 3), ("refusal", 3), ("plays", 3)):
            return self.searched(word, rest, self.number(rest[-1]))
        raise ValueError("no command")

    def searched(self, word, rest, rounds):
        one = self.entry(rest[-3], "Pool")
        other = self.entry(rest[-2], "Pool" if word == "plays" else "Task")
        if word == "plays":
            try:
                made_play(one, other, rounds)
            except InvalidOperation:
                return "no"
            return "yes"
        can = can_do(one, other, rounds)
        if word == "can":
            return plain(can)
        if word == "refusal":
            return "none" if can else ("refusal", one, other, rounds)
        if not can:
            return "cannot"
        return news(self.desk.put(rest[0], made_rule(one, other, rounds)))

    def answer(self, line):
        try:
            told = self.told(line)
        except Exception as error:
            if type(error) in WORDS:
                return WORDS[type(error)]
            if type(error) is TooMany:
                return f"many {error.limit}"
            if type(error) is Refused:
                return f"refused {write_claim(error.claim)}"
            return "what"
        self.answered += 1
        return told


class ShellTest(Case):
    def checks(self, shell, twin, line):
        told, answer = twin.answer(line), shell(line)
        if type(told) is tuple:
            self.assertTrue(is_refusal(*told[1:], read_tree(answer)))
        else:
            self.assertEqual(answer, told, line)
        self.assertEqual(len(shell), twin.answered)
        self.assertTrue(shell.desk() == twin.desk)
        return answer

    def test_drawn_lines(self):
        drawn, answers = Random(131), {}
        names = ["two", "snap", "same", "close", "both", "step", "x", "Y", "abcdefghi"]
        texts = ["- 0 | 1 -", "1 0", "- 0 | 0 -", "- 0 0", "0 0 = 1 1 ; 0 1 = 0 0 , 1 1", "0 = 1", "0 1", "agrees two",
                 "within two snap", "can two same 1", "does both same", "near snap 1 3", "near snap 1 4", "never snap",
                 "can snap close 1", "holds", "agrees zz"]
        words = ["pool", "snap", "task", "agreement", "near", "rule", "take", "demand", "waive", "undo", "redo", "show",
                 "told", "claims", "rounds", "limit", "lots", "can", "refusal", "does", "plays"]
        for _ in range(110):
            shell, twin = Shell(), Twin()
            for line in drawn.sample(TOLD, drawn.randrange(len(TOLD) + 1)):
                self.checks(shell, twin, line)
            for _ in range(60):
                word = drawn.choice(words)
                number = str(drawn.choice([0, 1, 1, 1, 2, 2, 3, 5, 7]))
                name, other, third = (drawn.choice(names) for _ in range(3))
                line = {
                    "pool": f"pool {name} {drawn.choice(texts)}", "task": f"task {name} {drawn.choice(texts)}",
                    "snap": f"snap {name} {number}", "agreement": f"agreement {name} {number}",
                    "near": f"near {name} {number} {drawn.choice([1, 3, 99])}", "undo": "undo", "redo": "redo",
                    "rule": f"rule {name} {other} {third} {number}", "told": "told", "claims": "claims",
                    "demand": f"demand {drawn.choice(texts)}", "waive": f"waive {drawn.choice(texts)}",
                    "limit": f"limit {name} {number}", "lots": f"lots {name} {number}", "does": f"does {name} {other}",
                }.get(word, f"{word} {name}" if word in ("take", "show", "rounds") else f"{word} {name} {other} {number}")
                if word in ("can", "refusal", "plays") and number in "357":
                    line = line[:-1] + "1"
                told = self.checks(shell, twin, line).split(" ")[0]
                answers[told] = answers.get(told, 0) + 1
        for told in ("name", "unknown", "operation", "text", "number", "undo", "many", "refused", "nothing", "cannot",
                     "yes", "no", "none", "ask"):
            self.assertGreater(answers.get(told, 0), 0, told)

    def test_lines_that_are_no_commands(self):
        shell, twin = Shell(), Twin()
        for line in TOLD:
            self.checks(shell, twin, line)
        for line in [
            "", " ", "told ", " told", "told told", "undo 1", "claims x", "pool", "pool two", "pool  two -", "snap", "snap a",
            "snap a b", "snap a -1", "snap a +1", "snap a 01", "snap a 1 1", "snap a 1.0", "near a 2", "near a 2 x",
            "rule a b c", "rule a b c x", "rule a b c 1 1", "take", "take a b", "demand", "waive", "show", "show a b",
            "rounds", "limit two", "limit two x", "lots two", "can two same", "can two same one", "does both",
            "does both same 1", "plays two snap", "plays two snap x", "Told", "help", "pool two\t-", "agreement a",
            "refusal two same", "undo undo", "redo x", "task a",
        ]:
            self.assertEqual(self.checks(shell, twin, line), "what", line)
        for value in WRONG:
            self.assertEqual(shell(value), "what")
            self.assertEqual(shell.answer(value), "what")
        self.assertEqual(len(shell), len(TOLD))

    def test_order_of_errors(self):
        shell, twin = Shell(), Twin()
        for line in TOLD:
            self.checks(shell, twin, line)
        for line, answer in [
            ("pool A x", "text"), ("pool A -", "name"), ("snap A 9", "number"), ("snap A 1", "name"),
            ("task A 0", "text"), ("agreement A 6", "number"), ("agreement A 0", "number"), ("near A 4 99", "many 256"),
            ("near A 0 100", "number"), ("rule A x y 9", "unknown"), ("rule A same y 9", "operation"),
            ("rule A two y 9", "unknown"), ("rule A two two 9", "operation"), ("rule A two same 9", "number"),
            ("rule A snap same 1", "cannot"), ("rule A two same 1", "name"), ("rule a snap same 1", "cannot"),
            ("take A", "unknown"), ("demand agrees A", "text"), ("demand agrees zz", "unknown"), ("waive agrees two", "operation"),
            ("can same two 9", "operation"), ("can two two 9", "operation"), ("can x two 9", "unknown"),
            ("does two same", "operation"), ("does both two", "operation"), ("does both both", "operation"),
            ("does x y", "unknown"), ("plays two same 9", "operation"), ("plays two snap 0", "number"),
            ("plays two snap 7", "number"), ("plays snap two 1", "no"), ("limit two 7", "number"), ("limit same 7", "operation"),
            ("lots two 7", "number"), ("rounds same", "operation"), ("rounds snap", "none"), ("limit two 1", "none"),
            ("refusal two same 1", "none"), ("refusal two snap 1", "operation"), ("redo", "undo"), ("claims", "nothing"),
            ("limit two " + "9" * 70, "number"), ("snap a " + "9" * 5000, "number"), ("show zz", "unknown"),
            ("demand near two 1 " + "9" * 60, "nothing"), ("demand near two 1 " + "9" * 61, "text"),
            ("demand agrees two", "nothing"), ("claims", "near two 1 " + "9" * 60 + "; agrees two"),
            ("pool two - 0 | 1 - | 1 0", "refused near two 1 " + "9" * 60), ("demand agrees two", "operation"),
            ("waive near two 1 " + "9" * 60, "nothing"), ("pool two - 0 | 1 - | 1 0", "refused agrees two"),
            ("take two", "refused agrees two"), ("demand never two", "refused never two"), ("waive agrees two", "nothing"),
            ("pool two - 0 | 1 - | 1 0", "two never"), ("undo", "two agrees"), ("redo", "two never"), ("redo", "undo"),
            ("snap three 3", "three never"), ("can three same 1", "operation"), ("plays three two 1", "operation"),
            ("demand within two three", "operation"), ("pool f -", "f agrees"), ("snap g 4", "many 8"), ("told",
             "both 1; close 4; f agrees; same 4; snap never; step 1; three never; two never"), ("lots snap 1", "1"),
            ("snap f 4", "f never"), ("lots f 2", "many 3000"), ("limit f 2", "many 3000"), ("take f", "f none"),
        ]:
            self.assertEqual(shell(line), answer, line)

    def test_twins_and_lengths(self):
        shell = Shell()
        self.assertEqual((len(shell), shell.desk() == Desk()), (0, True))
        shell("snap a 2")
        desk = shell.desk()
        desk.put("b", agreement_task(2))
        desk.undo(many=2)
        self.assertEqual((shell("told"), len(shell)), ("a never", 2))
        self.assertEqual((shell.answer("undo"), shell.answer("undo"), len(shell)), ("a none", "undo", 3))
        self.fails(TypeError, iter, shell)
        start = process_time()
        for _ in range(1000):
            shell("told")
        self.assertLess(process_time() - start, 2)
        self.assertEqual(len(shell), 1003)
