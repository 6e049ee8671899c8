"""Near limits: how long chains of views are that must have outputs one step apart."""

from poolmaps.base.checks import are_numbers, check_number, is_number
from poolmaps.base.pools import check_pool
from poolmaps.errors import InvalidOperation
from poolmaps.known.chains import bearers_of, reach
from poolmaps.known.sights import (
    all_rows, check_few_runs, check_few_words, count_rows, is_row, is_view, known_by_sight, sight_table,
    views_behind, views_in_runs,
)
from poolmaps.known.words import MAX_ROUNDS, check_rounds, is_word, known_table

MAX_MOST = 999
MAX_LINKS = 5000


def check_most(most):
    """Raises InvalidNumber for anything but a number of steps."""
    check_number(most, 1, MAX_MOST)


def check_binary_runs(pool, rounds):
    """The errors of pool and rounds, and TooMany if there are too many runs with inputs 0 and 1."""
    check_few_runs(pool, rounds, count_rows(pool.size, 2))


def binary_runs(pool, rounds):
    """A dict from all runs with inputs 0 and 1 to the views in them."""
    return views_in_runs(pool, rounds, all_rows(pool.size, 2))


def knows_alone(view, entry):
    """Whether all inputs that the view knows are this one."""
    return all([known == entry for _, known in view[2]])


def tie_labels(pool, rounds):
    """A dict from all views, ascending, to the lists of their runs, each as a label that ties views."""
    runs = binary_runs(pool, rounds)
    labels = {view: [] for view in sorted({each for told in runs.values() for each in told})}
    for run, views in runs.items():
        for view in views:
            labels[view].append((run,))
    return labels


def reach_from_low(labels):
    """What is reached from low views by ties, as `reach` tells it."""
    return reach(labels, bearers_of(labels), [view for view in labels if knows_alone(view, 0)])


def nearest_high(found):
    """A high view to which the fewest ties lead, or None."""
    highs = [(told[0], view) for view, told in found.items() if knows_alone(view, 1)]
    return min(highs)[1] if highs else None


def near_limit(pool, rounds):
    """The least number of links of a near chain, or None."""
    check_rounds(pool, rounds)
    check_binary_runs(pool, rounds)
    found = reach_from_low(tie_labels(pool, rounds))
    high = nearest_high(found)
    return None if high is None else found[high][0]


def near_chain(pool, rounds):
    """A shortest near chain, or None."""
    check_rounds(pool, rounds)
    check_binary_runs(pool, rounds)
    found = reach_from_low(tie_labels(pool, rounds))
    view = nearest_high(found)
    if view is None:
        return None
    links = []
    while found[view][0] > 0:
        _, run, front = found[view]
        links.append((run[0], run[1], front[0], view[0]))
        view = front
    return tuple(links[::-1])


def is_near_link(pool, rounds, value):
    """Whether the value is a link with a word of so many rounds."""
    if not isinstance(value, tuple) or len(value) != 4:
        return False
    row, word, one, other = value
    if not is_row(row, pool.size) or not are_numbers(row, 0, 1):
        return False
    if not is_word(pool, word) or len(word) != rounds:
        return False
    return are_numbers((one, other), 0, pool.size - 1) and one != other


def is_near_chain(pool, rounds, value):
    """Whether the value is a near chain, of any number of links up to 5000."""
    check_few_words(pool, rounds)
    if not isinstance(value, tuple) or not 1 <= len(value) <= MAX_LINKS:
        return False
    if not all([is_near_link(pool, rounds, link) for link in value]):
        return False
    numbers, knowing = sight_table(pool, rounds), known_table(pool, rounds)
    tied = []
    for row, word, one, other in value:
        views = views_behind(row, numbers[word], knowing[word])
        tied.append((views[one], views[other]))
    if not knows_alone(tied[0][0], 0) or not knows_alone(tied[-1][1], 1):
        return False
    return all([tied[at - 1][1] == tied[at][0] for at in range(1, len(tied))])


def near_distances(pool, rounds):
    """A dict from all views to the least number of ties from a low view, or None."""
    check_rounds(pool, rounds)
    check_binary_runs(pool, rounds)
    labels = tie_labels(pool, rounds)
    found = reach_from_low(labels)
    return {view: found[view][0] if view in found else None for view in labels}


def near_map(pool, rounds, most):
    """A near map: the distances, cut at `most`."""
    check_rounds(pool, rounds)
    check_most(most)
    distances = near_distances(pool, rounds)
    cut = {view: most if ties is None else min(ties, most) for view, ties in distances.items()}
    if any([knows_alone(view, 1) and output < most for view, output in cut.items()]):
        raise InvalidOperation("a near chain is too short for a near map")
    return cut


def are_near_outputs(row, outputs, most):
    """Whether these outputs of a run with this row are near to one another, and right at the ends."""
    if max(outputs) - min(outputs) > 1:
        return False
    if 1 not in row:
        return max(outputs) == 0
    return 0 in row or min(outputs) == most


def is_near_map(pool, rounds, most, value):
    """Whether the value is a near map up to `most`."""
    check_rounds(pool, rounds)
    check_most(most)
    check_binary_runs(pool, rounds)
    known_by = known_by_sight(sight_table(pool, rounds), known_table(pool, rounds))
    if not isinstance(value, dict) or not all([is_view(view, known_by) for view in value]):
        return False
    if not all([is_number(output, 0, most) for output in value.values()]):
        return False
    runs = binary_runs(pool, rounds)
    views = {view: True for told in runs.values() for view in told}
    if len(views) != len(value) or not all([view in value for view in views]):
        return False
    return all([are_near_outputs(run[0], [value[view] for view in told], most) for run, told in runs.items()])


def near_least(pool, most, *, up_to=3):
    """The least number of rounds, at most `up_to`, for which there is a near map, or None."""
    check_pool(pool)
    check_most(most)
    check_number(up_to, 0, MAX_ROUNDS)
    for rounds in range(up_to + 1):
        limit = near_limit(pool, rounds)
        if limit is None or limit >= most:
            return rounds
    return None
