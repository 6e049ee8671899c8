"""Right machines: whether each endless run comes to right outputs that are kept, and why or why not."""

from poolmaps.base.checks import GREATEST, are_ascending, are_numbers, is_number
from poolmaps.base.pools import check_pool
from poolmaps.errors import InvalidOperation
from poolmaps.groups.closed import can_agree
from poolmaps.machines.machines import MAX_REACHED, check_machine, check_size
from poolmaps.machines.walks import Walker, word_to
from poolmaps.tasks.tasks import agreement_task, check_sizes, check_task


def are_kept(elder, outputs):
    """Whether each thread that had an output has it still."""
    return all([before is None or before == output for before, output in zip(elder, outputs)])


class Work:
    """What a machine does with a pool, from the rows of a task on."""

    def __init__(self, machine, pool, task):
        self._machine = machine
        self._task = task
        self._walker = Walker(machine.moves, pool)
        self._outputs = {}
        self._ranks = {}
        self._keeping = {}

    def outputs_at(self, configuration):
        """The outputs of all threads, None for a thread without one."""
        if configuration not in self._outputs:
            self._outputs[configuration] = self._machine.shown_at(configuration)
        return self._outputs[configuration]

    def followers(self, configuration):
        """The list of the different configurations behind a round, each with the first index that leads to it."""
        return self._walker.followers(configuration)

    def is_open(self, configuration):
        """Whether some thread has no output."""
        return None in self.outputs_at(configuration)

    def is_wrong(self, row, configuration):
        """Whether all threads have outputs, which are not right for the row."""
        return not self.is_open(configuration) and self.outputs_at(configuration) not in self._task[row]

    def reached_by_rows(self):
        """A dict from the rows to what is reached from them."""
        return {
            row: self._walker.reached_from(self._machine.beginning(row), MAX_REACHED) for row in self._task.rows
        }

    def first_change(self, reached):
        """The first pair of a configuration and an index behind which an output is not kept, or None."""
        for configuration in reached:
            if configuration not in self._keeping:
                elder = self.outputs_at(configuration)
                for follower, index in self.followers(configuration):
                    if not are_kept(elder, self.outputs_at(follower)):
                        return (configuration, index)
                self._keeping[configuration] = True
        return None

    def plain_fault(self, row, reached):
        """A fault with an output that changes, or with wrong outputs, or None."""
        change = self.first_change(reached)
        if change is not None:
            return ("changed", row, (*word_to(reached, change[0]), change[1]))
        for configuration in reached:
            if self.is_wrong(row, configuration):
                return ("wrong", row, word_to(reached, configuration))
        return None

    def ring_from(self, start):
        """A pair of an open configuration and a ring of rounds that leads to it again, or None.

        All open configurations that are reached get their ranks: the most rounds until all threads have outputs.
        """
        way, turns, places = [start], [0], {start: 0}
        while way:
            configuration, followers = way[-1], self.followers(way[-1])
            if turns[-1] == len(followers) or not self.is_open(configuration):
                self._ranks[configuration] = self.rank_behind(configuration, followers)
                places.pop(configuration)
                way.pop()
                turns.pop()
            else:
                follower = followers[turns[-1]][0]
                turns[-1] += 1
                if follower in places:
                    first = places[follower]
                    return (follower, tuple([
                        self.followers(each)[turn - 1][1] for each, turn in zip(way[first:], turns[first:])
                    ]))
                if follower not in self._ranks:
                    places[follower] = len(way)
                    way.append(follower)
                    turns.append(0)
        return None

    def rank_behind(self, configuration, followers):
        """The rank of a configuration, by those of its followers."""
        if not self.is_open(configuration):
            return 0
        return 1 + max([self._ranks[each] for each, _ in followers])

    def endless_fault(self, row, reached):
        """A fault with a ring of rounds in which some thread has no output, or None."""
        start = self._machine.beginning(row)
        ring = self.ring_from(start) if start not in self._ranks else None
        if ring is None:
            return None
        return ("endless", row, word_to(reached, ring[0]), ring[1])

    def fault(self):
        """A fault, or None; if there is none, all open configurations that are reached have ranks."""
        reached_by_rows = self.reached_by_rows()
        for row, reached in reached_by_rows.items():
            told = self.plain_fault(row, reached)
            if told is not None:
                return told
        for row, reached in reached_by_rows.items():
            told = self.endless_fault(row, reached)
            if told is not None:
                return told
        return None

    def rank_of(self, configuration):
        """The rank of a configuration that is reached, if there is no fault."""
        return self._ranks.get(configuration, 0)

    def most_rounds(self):
        """The most rounds until all threads have outputs, if there is no fault."""
        return max([self.rank_of(self._machine.beginning(row)) for row in self._task.rows])

    def certificate(self):
        """The right certificate, if there is no fault."""
        return ("right", {
            row: {configuration: self.rank_of(configuration) for configuration in sorted(reached)}
            for row, reached in self.reached_by_rows().items()
        })


def check_work(machine, pool, task):
    """The errors of what speaks of a machine for a pool and a task."""
    check_machine(machine)
    check_pool(pool)
    check_task(task)
    check_fitting(machine, pool, task)


def check_fitting(machine, pool, task):
    """Raises InvalidOperation if the sizes differ, or the machine cannot begin with a row of the task."""
    check_size(machine, pool)
    check_sizes(pool, task)
    if not all([machine.can_begin(row) for row in task.rows]):
        raise InvalidOperation("the machine cannot begin with a row of the task")


def is_right(machine, pool, task):
    """Whether the machine is right for the pool and the task."""
    check_work(machine, pool, task)
    return Work(machine, pool, task).fault() is None


def right_rounds(machine, pool, task):
    """The least number of rounds behind which all threads have outputs in all runs."""
    check_work(machine, pool, task)
    work = Work(machine, pool, task)
    if work.fault() is not None:
        raise InvalidOperation("the machine is not right")
    return work.most_rounds()


def machine_fault(machine, pool, task):
    """A fault of the machine, or None."""
    check_work(machine, pool, task)
    return Work(machine, pool, task).fault()


def machine_certificate(machine, pool, task):
    """A right certificate of the machine, or a fault."""
    check_work(machine, pool, task)
    work = Work(machine, pool, task)
    fault = work.fault()
    return work.certificate() if fault is None else fault


def configurations_on(machine, pool, row, word):
    """The list of the configurations from the start of a run to its end."""
    trail = [machine.beginning(row)]
    for index in word:
        trail.append(machine.round_of(trail[-1], pool.webs[index]))
    return trail


def is_fault_form(pool, task, value):
    """Whether the value has the form of a fault, with a row of the task and words of any length."""
    if not isinstance(value, tuple) or len(value) not in (3, 4) or value[1] not in task:
        return False
    if not all([are_numbers(word, 0, len(pool) - 1) for word in value[2:]]):
        return False
    if len(value) == 4:
        return value[0] == "endless" and len(value[3]) > 0
    return value[0] == "wrong" or (value[0] == "changed" and len(value[2]) > 0)


def is_machine_fault(machine, pool, task, value):
    """Whether the value is a fault of the machine."""
    check_work(machine, pool, task)
    if not is_fault_form(pool, task, value):
        return False
    trail = configurations_on(machine, pool, value[1], [index for word in value[2:] for index in word])
    outputs = machine.shown_at(trail[-1])
    if value[0] == "changed":
        return not are_kept(machine.shown_at(trail[-2]), outputs)
    if value[0] == "wrong":
        return None not in outputs and outputs not in task[value[1]]
    return None in outputs and trail[len(value[2])] == trail[-1]


def is_rank_right(work, row, ranks, configuration):
    """Whether the number of a configuration is right, by those of the configurations behind a round."""
    rank, behind = ranks[configuration], [each for each, _ in work.followers(configuration)]
    if not all([each in ranks for each in behind]):
        return False
    elder = work.outputs_at(configuration)
    if not all([are_kept(elder, work.outputs_at(each)) for each in behind]):
        return False
    if rank == 0:
        return not work.is_open(configuration) and not work.is_wrong(row, configuration)
    return work.is_open(configuration) and all([ranks[each] < rank for each in behind])


def are_ranks(machine, work, row, value):
    """Whether the value is a dict from configurations to right numbers for a row, the start of the row among them."""
    if not isinstance(value, dict) or not all([machine.is_configuration(configuration) for configuration in value]):
        return False
    if not all([is_number(rank, 0, GREATEST) for rank in value.values()]) or machine.beginning(row) not in value:
        return False
    return all([is_rank_right(work, row, value, configuration) for configuration in value])


def is_right_certificate(machine, pool, task, value):
    """Whether the value is a right certificate of the machine."""
    if not isinstance(value, tuple) or len(value) != 2 or value[0] != "right" or not isinstance(value[1], dict):
        return False
    if len(value[1]) != len(task) or not all([row in task for row in value[1]]):
        return False
    work = Work(machine, pool, task)
    return all([are_ranks(machine, work, row, ranks) for row, ranks in value[1].items()])


def is_machine_certificate(machine, pool, task, value):
    """Whether the value is a right certificate of the machine, or a fault."""
    check_work(machine, pool, task)
    return is_right_certificate(machine, pool, task, value) or is_machine_fault(machine, pool, task, value)


def driven_fault(machine, pool, indices):
    """A fault for agreement whose words have these webs alone, which cannot agree."""
    check_machine(machine)
    check_pool(pool)
    if not are_ascending(indices, 0, len(pool) - 1) or not indices:
        raise InvalidOperation("these are not one or more ascending indices of webs")
    task = agreement_task(pool.size)
    check_fitting(machine, pool, task)
    driving = pool.picked(indices)
    if can_agree(driving):
        raise InvalidOperation("these webs can agree")
    fault = Work(machine, driving, task).fault()
    return (*fault[:2], *[tuple([indices[index] for index in word]) for word in fault[2:]])
