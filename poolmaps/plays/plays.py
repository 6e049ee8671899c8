"""Plays: a round of a guest pool in some rounds of a host pool."""

from poolmaps.base.checks import check_number, is_number
from poolmaps.base.pools import Pool, check_pool, check_pool_like, each_once
from poolmaps.base.webs import check_web
from poolmaps.errors import InvalidOperation, InvalidRule, InvalidWord
from poolmaps.groups.closed import can_agree, is_obstacle, obstacle
from poolmaps.known.sights import (
    MAX_WORDS, check_few_runs, check_few_words, known_by_sight, sight_table, views_in_runs,
)
from poolmaps.known.words import is_word, known_table
from poolmaps.plays.powers import blocks_of_word, check_at_least_one, power_pool
from poolmaps.plays.settings import PlaySetting, is_known_signal
from poolmaps.puzzles.trees import MAX_NODES
from poolmaps.tasks.rules import Rule
from poolmaps.tasks.tasks import check_sizes, check_task


def check_hosting(host, guest, rounds):
    """The errors of what speaks of plays of a guest in so many rounds of a host."""
    check_pool(host)
    check_pool_like(guest, host)
    check_at_least_one(rounds)
    check_few_words(host, rounds)


def is_signal_map(value, thread, known_by):
    """Whether the value is a dict from all numbers of sights of the thread to signals that hear only known threads."""
    if not isinstance(value, dict) or not all([is_number(number, 0, MAX_WORDS) for number in value]):
        return False
    if sorted(value) != [number for each, number in known_by if each == thread]:
        return False
    return all([is_known_signal(signal, known_by[(thread, number)]) for number, signal in value.items()])


def webs_played(guest, numbers, known_by, value):
    """A dict from the words of the host to the indices of the guest's webs; None if these are no maps."""
    if not isinstance(value, tuple) or len(value) != guest.size:
        return None
    if not all([is_signal_map(signals, thread, known_by) for thread, signals in enumerate(value)]):
        return None
    places = {web.signals: index for index, web in enumerate(guest.webs)}
    played = {}
    for word, told in numbers.items():
        signals = tuple([value[thread][number] for thread, number in enumerate(told)])
        if signals not in places:
            return None
        played[word] = places[signals]
    return played


class Play:
    """A way to play a round of the guest in some rounds of the host. Plays never change."""

    def __init__(self, host, guest, rounds, maps):
        check_hosting(host, guest, rounds)
        self._numbers = sight_table(host, rounds)
        known_by = sights_with_known(host, rounds, self._numbers)
        self._played = webs_played(guest, self._numbers, known_by, maps)
        if self._played is None:
            raise InvalidOperation("these are no maps of a play")
        self._host = host
        self._guest = guest
        self._rounds = rounds
        self._maps = tuple([{number: signals[number] for number in sorted(signals)} for signals in maps])

    @property
    def host(self):
        """The pool in which the other one is played."""
        return self._host

    @property
    def guest(self):
        """The pool that is played."""
        return self._guest

    @property
    def rounds(self):
        """The rounds of the host for a round of the guest."""
        return self._rounds

    @property
    def maps(self):
        """For each thread the dict from the numbers of its sights to signals."""
        return tuple([{number: signal for number, signal in signals.items()} for signals in self._maps])

    def signal_for(self, thread, number):
        """The signal for a sight."""
        check_number(thread, 0, self._host.size - 1)
        check_number(number, 0, len(self._maps[thread]) - 1)
        return self._maps[thread][number]

    def word_of(self, word):
        """The word of the guest that is played behind a word of the host."""
        if not is_word(self._host, word) or len(word) % self._rounds > 0:
            raise InvalidWord("this is no word of the host whose length is a multiple of the rounds")
        return tuple([self._played[block] for block in blocks_of_word(word, self._rounds)])

    def signals_behind(self, word):
        """The signals of all threads behind a word of so many rounds of the host."""
        return tuple([self._maps[thread][number] for thread, number in enumerate(self._numbers[word])])

    def then(self, other):
        """The play of the other play's guest in the host of this one."""
        if not isinstance(other, Play) or other._host != self._guest:
            raise InvalidOperation("this is no play in the guest of this one")
        rounds = self._rounds * other._rounds
        check_few_words(self._host, rounds)
        numbers = sight_table(self._host, rounds)
        signals = [other.signals_behind(self.word_of(word)) for word in numbers]
        return Play(self._host, other._guest, rounds, maps_of(self._host, numbers, signals))

    def carried(self, rule, task):
        """The rule for the host that puts out what the rule for the guest puts out in the run that is played."""
        if not isinstance(rule, Rule) or rule.pool != self._guest:
            raise InvalidRule("this is no rule for the guest")
        check_task(task)
        check_sizes(self._host, task)
        rounds = self._rounds * rule.rounds
        check_few_runs(self._host, rounds, len(task))
        table, outputs = rule.table, {}
        for run, views in views_in_runs(self._host, rounds, task.rows).items():
            row, word = run
            for view, played in zip(views, rule.views_in(row, self.word_of(word))):
                if played in table:
                    outputs[view] = table[played]
        return Rule(self._host, rounds, outputs)

    def __eq__(self, other):
        return (
            isinstance(other, Play) and self._host == other._host and self._guest == other._guest
            and self._rounds == other._rounds and self._maps == other._maps
        )

    def __str__(self):
        return f"play of {len(self._guest)} webs in {len(self._host)} webs, {self._rounds} rounds"


def sights_with_known(host, rounds, numbers):
    """A dict from all sights behind so many rounds, ascending, to the threads that are known with them."""
    known_by = known_by_sight(numbers, known_table(host, rounds))
    return {sight: known_by[sight] for sight in sorted(known_by)}


def maps_of(host, numbers, signals):
    """The maps that give the sights behind the words of these numbers these signals of all threads."""
    maps = [{} for _ in range(host.size)]
    for told, given in zip(list(numbers.values()), signals):
        for thread, number in enumerate(told):
            maps[thread][number] = given[thread]
    return tuple(maps)


def play_of_webs(host, guest, rounds, webs):
    """The play in which these webs of the guest, one for each word of the host in order, are played."""
    return Play(host, guest, rounds, maps_of(host, sight_table(host, rounds), [web.signals for web in webs]))


def is_play(host, guest, rounds, value):
    """Whether the value has the maps of a play."""
    check_hosting(host, guest, rounds)
    numbers = sight_table(host, rounds)
    return webs_played(guest, numbers, sights_with_known(host, rounds, numbers), value) is not None


def same_play(pool):
    """The play of a pool in itself in which each thread takes its own signal."""
    check_pool(pool)
    return play_of_webs(pool, pool, 1, pool.webs)


def lesser_play(host, guest):
    """The play in which each thread takes its own signal, for a host whose webs are webs of the guest."""
    check_pool(host)
    check_pool_like(guest, host)
    if not host.is_within(guest):
        raise InvalidOperation("some webs of the host are none of the guest")
    return play_of_webs(host, guest, 1, host.webs)


def forgetting_play(pool, web):
    """The play in which each thread forgets that it hears those whom it does not hear in the web."""
    check_pool(pool)
    check_web(web, pool.size)
    webs = [one.shared(web) for one in pool.webs]
    return play_of_webs(pool, Pool(each_once(webs)), 1, webs)


def power_play(pool, rounds):
    """The play of the power of a pool in the pool."""
    check_pool(pool)
    check_at_least_one(rounds)
    power = power_pool(pool, rounds)
    return play_of_webs(pool, power, rounds, power.webs)


def can_play(host, guest, rounds):
    """Whether the guest can be played in so many rounds of the host."""
    check_hosting(host, guest, rounds)
    return PlaySetting(host, guest, rounds).found_maps() is not None


def made_play(host, guest, rounds):
    """A play of the guest in so many rounds of the host."""
    check_hosting(host, guest, rounds)
    maps = PlaySetting(host, guest, rounds).found_maps()
    if maps is None:
        raise InvalidOperation("the guest cannot be played in so many rounds of the host")
    return Play(host, guest, rounds, maps)


def play_refusal(host, guest, rounds):
    """A tree of questions that shows that the guest cannot be played in so many rounds of the host."""
    check_hosting(host, guest, rounds)
    nodes = PlaySetting(host, guest, rounds).refusing_nodes()
    if nodes is None:
        raise InvalidOperation("the guest can be played in so many rounds of the host")
    return nodes


def is_play_refusal(host, guest, rounds, value):
    """Whether the value is a tree of questions that shows that there is no play."""
    check_hosting(host, guest, rounds)
    if not isinstance(value, tuple) or not 1 <= len(value) <= MAX_NODES:
        return False
    return PlaySetting(host, guest, rounds).is_refused_by(value)


def always_heard(guest):
    """The list of the pairs of a thread and another one that it hears in each web of the guest."""
    return [
        (thread, other) for thread in range(guest.size) for other in range(guest.size)
        if all([(thread, other) in web for web in guest.webs])
    ]


def never_plays(host, guest):
    """Why the guest cannot be played in the host in any number of rounds, or None."""
    check_pool(host)
    check_pool_like(guest, host)
    if can_agree(guest) and not can_agree(host):
        return ("agree", obstacle(host))
    heard = always_heard(guest)
    for index, web in enumerate(host.webs):
        for thread, other in heard:
            if thread not in web.reached(other):
                return ("hear", thread, other, index)
        if guest.is_rooted and not web.roots:
            return ("roots", index)
    return None


def is_never(host, guest, value):
    """Whether the value shows that the guest cannot be played in the host in any number of rounds."""
    check_pool(host)
    check_pool_like(guest, host)
    if not isinstance(value, tuple) or len(value) not in (2, 4):
        return False
    if len(value) == 2 and value[0] == "agree":
        return is_obstacle(host, value[1]) and can_agree(guest)
    if len(value) == 2 and value[0] == "roots":
        return is_number(value[1], 0, len(host) - 1) and guest.is_rooted and not host.webs[value[1]].roots
    if len(value) == 2 or value[0] != "hear" or not is_number(value[3], 0, len(host) - 1):
        return False
    thread, other, index = value[1:]
    if not is_number(thread, 0, host.size - 1) or not is_number(other, 0, host.size - 1):
        return False
    return (thread, other) in always_heard(guest) and thread not in host.webs[index].reached(other)
