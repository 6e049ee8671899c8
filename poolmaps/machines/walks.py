"""Walks of machines from configuration to configuration, each round of which is reckoned once."""

from poolmaps.errors import TooMany


class Walk:
    """What leads from places to others by the webs of a pool. Each kind of walk tells its steps."""

    def __init__(self):
        self._followers = {}

    def steps_from(self, place):
        """The list of the places behind a round, one for each web in order."""
        return [place]

    def followers(self, place):
        """The list of the different places behind a round, each with the first index that leads to it."""
        if place not in self._followers:
            firsts = {}
            for index, each in enumerate(self.steps_from(place)):
                firsts.setdefault(each, index)
            self._followers[place] = list(firsts.items())
        return self._followers[place]

    def reached_from(self, start, most):
        """A dict from all places that are reached to pairs of the one in front and an index, nearest first.

        Raises TooMany if there are more of them than `most`.
        """
        reached = {start: None}
        queue = [start]
        at = 0
        while at < len(queue):
            place = queue[at]
            at += 1
            for each, index in self.followers(place):
                if each not in reached:
                    reached[each] = (place, index)
                    queue.append(each)
            if len(queue) > most:
                raise TooMany(most)
        return reached


class Walker(Walk):
    """The walk of a machine with these moves, from configuration to configuration."""

    def __init__(self, moves, pool):
        Walk.__init__(self)
        self._moves = moves
        heard = [
            [(web.heard[thread], web.marks[thread]) for web in pool.webs] for thread in range(pool.size)
        ]
        # Many webs give a thread the same signal, so each different one is looked at once for a configuration.
        self._hearings = [list({each: True for each in told}) for told in heard]
        places = [{each: place for place, each in enumerate(told)} for told in self._hearings]
        self._choices = [
            tuple([places[thread][told[index]] for thread, told in enumerate(heard)]) for index in range(len(pool))
        ]

    def letters_at(self, configuration):
        """For each thread the list of its letters, one for each different signal."""
        return [
            [
                (thread, state, mark, tuple([(other, configuration[other]) for other in others]))
                for others, mark in self._hearings[thread]
            ]
            for thread, state in enumerate(configuration)
        ]

    def steps_from(self, place):
        """The list of the configurations behind a round, one for each web in order."""
        moves = self._moves
        told = [[moves.get(letter, letter[1]) for letter in letters] for letters in self.letters_at(place)]
        if all([len(set(states)) == 1 for states in told]):
            # No thread minds what it hears, as with most machines that have come to their outputs.
            return [tuple([states[0] for states in told])] * len(self._choices)
        return [tuple([states[choice] for states, choice in zip(told, chosen)]) for chosen in self._choices]

    def behind_words(self, start, rounds):
        """A dict from all words with so many rounds to the configurations behind them."""
        table = {(): start}
        steps = {}
        for _ in range(rounds):
            for configuration in table.values():
                if configuration not in steps:
                    steps[configuration] = self.steps_from(configuration)
            table = {
                (*word, index): each
                for word, configuration in table.items() for index, each in enumerate(steps[configuration])
            }
        return table


class PairWalker(Walk):
    """The walk of two machines with these moves, from pair to pair of their configurations."""

    def __init__(self, moves, others, pool):
        Walk.__init__(self)
        self._one = Walker(moves, pool)
        self._other = Walker(others, pool)

    def steps_from(self, place):
        """The list of the pairs of configurations behind a round, one for each web in order."""
        return list(zip(self._one.steps_from(place[0]), self._other.steps_from(place[1])))


def word_to(reached, place):
    """The word that leads to a place, by what is reached."""
    word = []
    while reached[place] is not None:
        place, index = reached[place]
        word.append(index)
    return tuple(word[::-1])
