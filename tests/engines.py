"""What the tests of machines share: drawn machines, and rounds gone through letter by letter."""

from itertools import product

from poolmaps.machines.machines import Machine

STARTS = {(0, 0): 2, (0, 1): 3, (1, 0): 0, (1, 1): 1}
MOVES = {(1, old, 0, ((0, new),)): new for old in (0, 1) for new in (2, 3)}
FOLLOW = Machine(2, 4, STARTS, MOVES, {(0, 2): 0, (0, 3): 1, (1, 2): 0, (1, 3): 1})


def letters_by_hand(configuration, web):
    told = []
    for thread in range(web.size):
        heard = [(other, configuration[other]) for other in range(web.size) if other in web.heard[thread]]
        told.append((thread, configuration[thread], web.marks[thread], tuple(heard)))
    return tuple(told)


def round_by_hand(machine, configuration, web):
    """The configuration behind a round, by the moves as they are told."""
    behind, moves = [], machine.moves
    for letter in letters_by_hand(configuration, web):
        behind.append(moves[letter] if letter in moves else letter[1])
    return tuple(behind)


def start_by_hand(machine, row):
    return tuple(machine.starts[thread, entry] for thread, entry in enumerate(row))


def shown_by_hand(machine, configuration):
    return tuple(machine.decisions.get((thread, state)) for thread, state in enumerate(configuration))


def trail_by_hand(machine, pool, row, word):
    trail = [start_by_hand(machine, row)]
    for index in word:
        trail.append(round_by_hand(machine, trail[-1], pool.webs[index]))
    return trail


def drawn_machine(drawn, pool, states=3, inputs=(0, 1), moving=0.7, deciding=0.5, outputs=(0, 1)):
    """A machine with drawn moves for letters that the webs of the pool can bring."""
    starts = {(t, entry): drawn.randrange(states) for t in range(pool.size) for entry in inputs}
    moves = {}
    for web in pool:
        for thread in range(pool.size):
            others = web.heard[thread]
            for told in product(range(states), repeat=1 + len(others)):
                letter = (thread, told[0], web.marks[thread], tuple(zip(others, told[1:])))
                if drawn.random() < moving:
                    moves[letter] = drawn.randrange(states)
    decisions = {
        (t, s): drawn.choice(outputs) for t in range(pool.size) for s in range(states) if drawn.random() < deciding}
    return Machine(pool.size, states, starts, moves, decisions)


def reached_by_hand(machine, pool, row):
    """All configurations that are reached from a row, by ever greater sets."""
    reached = {start_by_hand(machine, row)}
    while True:
        more = reached | {round_by_hand(machine, each, web) for each in reached for web in pool}
        if more == reached:
            return reached
        reached = more
