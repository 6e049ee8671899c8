"""Rules: outputs for views, and whether they do a task."""

from poolmaps.base.checks import check_number, is_number, is_pair
from poolmaps.base.pools import check_pool
from poolmaps.errors import InvalidOperation, InvalidRule, InvalidWord, UnknownName
from poolmaps.known.sights import (
    check_few_runs, check_few_words, check_row, is_view, known_by_sight, sight_table, views_behind, views_in_runs,
)
from poolmaps.known.words import MAX_ROUNDS, is_word, known_table
from poolmaps.tasks.tasks import MAX_OUTPUT, check_sizes, check_task, is_replacement


def are_rule_outputs(value, known_by):
    """Whether the value is a dict from views with these sights to outputs."""
    if not isinstance(value, dict) or not all([is_view(view, known_by) for view in value]):
        return False
    return all([is_number(output, 0, MAX_OUTPUT) for output in value.values()])


class Rule:
    """Outputs for some views behind a number of rounds. Rules never change."""

    def __init__(self, pool, rounds, outputs):
        check_few_words(pool, rounds)
        self._pool = pool
        self._rounds = rounds
        self._numbers = sight_table(pool, rounds)
        self._knowing = known_table(pool, rounds)
        self._known_by = known_by_sight(self._numbers, self._knowing)
        if not are_rule_outputs(outputs, self._known_by):
            raise InvalidRule("this is no dict from views behind so many rounds to outputs")
        self._table = {view: outputs[view] for view in sorted(outputs)}
        self._views = tuple(self._table)

    @property
    def pool(self):
        """The pool of the webs."""
        return self._pool

    @property
    def rounds(self):
        """The number of rounds."""
        return self._rounds

    @property
    def views(self):
        """The views that have outputs, ascending."""
        return self._views

    @property
    def table(self):
        """The dict from the views to their outputs."""
        return {view: output for view, output in self._table.items()}

    def views_in(self, row, word):
        """The views in a run that is checked already."""
        return views_behind(row, self._numbers[word], self._knowing[word])

    def outcome(self, row, word):
        """The output row of a run."""
        check_row(row, self._pool.size)
        if not is_word(self._pool, word) or len(word) != self._rounds:
            raise InvalidWord("this is no word of the pool with so many rounds")
        return tuple([self[view] for view in self.views_in(row, word)])

    def is_right_in(self, rights, row, word):
        """Whether all views of a run that is checked already have outputs, which are one of these rows."""
        views = self.views_in(row, word)
        if not all([view in self._table for view in views]):
            return False
        return tuple([self._table[view] for view in views]) in rights

    def lengthened(self, more, task):
        """The rule with more rounds, of which the threads make no use, for the runs of the task."""
        check_number(more, 0, MAX_ROUNDS - self._rounds)
        check_task(task)
        check_sizes(self._pool, task)
        rounds = self._rounds + more
        check_few_runs(self._pool, rounds, len(task))
        outputs = {}
        for run, views in views_in_runs(self._pool, rounds, task.rows).items():
            row, word = run
            for view, early in zip(views, self.views_in(row, word[:self._rounds])):
                if early in self._table:
                    outputs[view] = self._table[early]
        return Rule(self._pool, rounds, outputs)

    def for_pool(self, pool):
        """The rule for a pool whose webs are among those of its own one."""
        check_pool(pool)
        if pool.size != self._pool.size or not pool.is_within(self._pool):
            raise InvalidOperation("some webs are none of the pool of the rule")
        places = [self._pool.index_of(web) for web in pool.webs]
        moved = {}
        for word, numbers in sight_table(pool, self._rounds).items():
            elder = self._numbers[tuple([places[index] for index in word])]
            for thread, number in enumerate(numbers):
                moved[(thread, elder[thread])] = (thread, number)
        return Rule(pool, self._rounds, {
            (*moved[view[:2]], view[2]): output for view, output in self._table.items() if view[:2] in moved
        })

    def replaced(self, outputs):
        """The rule with all outputs replaced."""
        if not is_replacement(outputs, sorted(set(list(self._table.values())))):
            raise InvalidOperation("these are not just the outputs that occur")
        return Rule(self._pool, self._rounds, {view: outputs[output] for view, output in self._table.items()})

    def with_output(self, view, output):
        """The rule with another output for a view, or one more."""
        if not is_view(view, self._known_by):
            raise InvalidRule("this is no view behind so many rounds")
        table = self.table
        table[view] = output
        return Rule(self._pool, self._rounds, table)

    def __getitem__(self, at):
        if at not in self:
            raise UnknownName(at)
        return self._table[at]

    def __contains__(self, x):
        return is_view(x, self._known_by) and x in self._table

    def __iter__(self):
        return iter(self._views)

    def __len__(self):
        return len(self._views)

    def __eq__(self, other):
        return (
            isinstance(other, Rule) and self._pool == other._pool and self._rounds == other._rounds
            and self._table == other._table
        )

    def __str__(self):
        return f"rule of {len(self._views)} views, {self._rounds} rounds"


def check_rule(rule):
    """Raises InvalidRule for anything but a rule."""
    if not isinstance(rule, Rule):
        raise InvalidRule("this is no rule")


def check_doing(rule, task):
    """The errors of what asks whether a rule does a task."""
    check_rule(rule)
    check_task(task)
    check_sizes(rule.pool, task)
    check_few_runs(rule.pool, rule.rounds, len(task))


def does(rule, task):
    """Whether the rule does the task."""
    return found_fault(rule, task) is None


def found_fault(rule, task):
    """A run in which the rule gives no right output row, or None."""
    check_doing(rule, task)
    words = list(sight_table(rule.pool, rule.rounds))
    for row in task.rows:
        rights = {right: True for right in task[row]}
        for word in words:
            if not rule.is_right_in(rights, row, word):
                return (row, word)
    return None


def is_fault(rule, task, value):
    """Whether the value is a run in which the rule gives no right output row."""
    check_doing(rule, task)
    if not is_pair(value) or value[0] not in task:
        return False
    row, word = value
    if not is_word(rule.pool, word) or len(word) != rule.rounds:
        return False
    return not rule.is_right_in(task[row], row, word)
