"""Views as states: what a thread knows behind each round, and what it knows behind the next one."""

from poolmaps.known.sights import count_rows, known_by_sight, sight_table
from poolmaps.known.words import known_table


def known_by_rounds(pool, rounds):
    """For each number of rounds up to this one the dict from the sights to the threads that are known with them."""
    return [
        known_by_sight(sight_table(pool, many), known_table(pool, many)) for many in range(rounds + 1)
    ]


def counts_of_views(pool, rounds, many):
    """For each thread the number of its views behind 0, 1, .. rounds, all together, with so many inputs."""
    counts = [0] * pool.size
    for known_by in known_by_rounds(pool, rounds):
        for sight, known in known_by.items():
            counts[sight[0]] += count_rows(len(known), many)
    return counts


def all_inputs(known, entries):
    """The list of all ways to give these threads inputs, ascending."""
    found = [()]
    for thread in known:
        found = [(*front, (thread, entry)) for front in found for entry in entries]
    return found


def states_of_views(pool, rounds, entries):
    """For each number of rounds a dict from all views to numbers, which go on for each thread from round to round."""
    states = []
    numbered = [0] * pool.size
    for known_by in known_by_rounds(pool, rounds):
        table = {}
        for sight in sorted(known_by):
            for told in all_inputs(known_by[sight], entries):
                view = (*sight, told)
                table[view] = numbered[sight[0]]
                numbered[sight[0]] += 1
        states.append(table)
    return states


def state_in(states, known_by, sight, entry_of):
    """The state of the view with this sight, by the inputs of the threads."""
    view = (*sight, tuple([(thread, entry_of[thread]) for thread in known_by[sight]]))
    return states[view]


def first_steps(pool, rounds):
    """A dict from the sights behind so many rounds to how they first come: the web, and the sights ahead of it."""
    earlier = sight_table(pool, rounds - 1)
    steps = {}
    for word, numbers in sight_table(pool, rounds).items():
        for sight in enumerate(numbers):
            steps.setdefault(sight, (pool.webs[word[-1]], earlier[word[:-1]]))
    return steps


def moves_of_views(pool, rounds, entries, states):
    """The moves that lead from the views behind each round to those behind the next one, as states."""
    known_by = known_by_rounds(pool, rounds)
    moves = {}
    for many in range(1, rounds + 1):
        for sight, (web, numbers) in first_steps(pool, many).items():
            thread = sight[0]
            for told in all_inputs(known_by[many][sight], entries):
                entry_of = {each: entry for each, entry in told}
                ahead = [
                    (other, state_in(states[many - 1], known_by[many - 1], (other, numbers[other]), entry_of))
                    for other in (thread, *web.heard[thread])
                ]
                letter = (thread, ahead[0][1], web.marks[thread], tuple(ahead[1:]))
                view = (*sight, told)
                moves[letter] = states[many][view]
    return moves
