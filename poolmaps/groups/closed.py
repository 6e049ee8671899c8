"""Closed groups: why agreement can be reached in some number of rounds, or never."""

from poolmaps.base.checks import are_numbers, is_climbing, is_pair
from poolmaps.base.pools import check_pool
from poolmaps.errors import InvalidOperation
from poolmaps.groups.links import check_group, is_group, parts_of, root_labels

MAX_LEVELS = 100


def roots_in_common(pool, group):
    """The common roots of a group that is checked already."""
    webs = [pool.webs[index] for index in group]
    return tuple([root for root in webs[0].roots if all([root in web.roots for web in webs])])


def common_roots(pool, group):
    """The ascending tuple of the threads that are roots of each web of the group."""
    check_group(pool, group)
    return roots_in_common(pool, group)


def is_closed(pool, value):
    """Whether the value is a closed group of the pool."""
    check_pool(pool)
    return is_group(pool, value) and len(parts_of(pool, value)) == 1


def parts_of_all(pool, groups):
    """The ascending tuple of the parts of all these groups."""
    return tuple(sorted([part for group in groups for part in parts_of(pool, group)]))


def splitting_steps(pool):
    """All stages on the way from the group of all indices to the splitting."""
    check_pool(pool)
    steps = []
    groups = (tuple(range(len(pool))),)
    while not steps or groups != steps[-1]:
        steps.append(groups)
        groups = parts_of_all(pool, groups)
    return tuple(steps)


def splitting(pool):
    """The ascending tuple of the closed groups at the end of the splitting."""
    return splitting_steps(pool)[-1]


def groups_without_root(pool):
    """The list of the groups of the splitting that have no common root."""
    return [group for group in splitting(pool) if not roots_in_common(pool, group)]


def can_agree(pool):
    """Whether agreement can be reached in some number of rounds."""
    return not groups_without_root(pool)


def obstacle(pool):
    """A closed group without a common root."""
    barred = groups_without_root(pool)
    if not barred:
        raise InvalidOperation("each closed group has a common root")
    return barred[0]


def is_obstacle(pool, value):
    """Whether the value is a closed group without a common root."""
    return is_closed(pool, value) and not roots_in_common(pool, value)


def agreement_certificate(pool):
    """The stages of the splitting, and a common root for each group of the last one."""
    if not can_agree(pool):
        raise InvalidOperation("agreement can never be reached")
    steps = splitting_steps(pool)
    return (steps, tuple([roots_in_common(pool, group)[0] for group in steps[-1]]))


def is_level(pool, value):
    """Whether the value is an ascending tuple of groups with each index of the pool once."""
    if not isinstance(value, tuple) or not all([is_group(pool, group) for group in value]):
        return False
    return is_climbing(value) and sorted([index for group in value for index in group]) == list(range(len(pool)))


def group_numbers(level):
    """A dict from each index to the number of its group in the level."""
    return {index: number for number, group in enumerate(level) for index in group}


def parts_well(pool, elder, numbers):
    """Whether no two webs of the elder group in groups with different numbers are alike for a web of it."""
    number_of = {}
    for index, labels in root_labels(pool, elder).items():
        for label in labels:
            if number_of.setdefault(label, numbers[index]) != numbers[index]:
                return False
    return True


def is_finer(pool, elder, level):
    """Whether each group of the level lies within one of the elder level, which it parts well."""
    elder_numbers = group_numbers(elder)
    for group in level:
        if any([elder_numbers[index] != elder_numbers[group[0]] for index in group]):
            return False
    numbers = group_numbers(level)
    return all([parts_well(pool, group, numbers) for group in elder if group not in level])


def are_levels(pool, value):
    """Whether the value is the first part of an agreement certificate."""
    if not isinstance(value, tuple) or not 1 <= len(value) <= MAX_LEVELS:
        return False
    if not all([is_level(pool, level) for level in value]) or len(value[0]) != 1:
        return False
    return all([is_finer(pool, elder, level) for elder, level in zip(value, value[1:])])


def is_agreement_certificate(pool, value):
    """Whether the value is an agreement certificate of the pool."""
    check_pool(pool)
    if not is_pair(value) or not are_levels(pool, value[0]) or not are_numbers(value[1], 0, pool.size - 1):
        return False
    groups, roots = value[0][-1], value[1]
    if len(roots) != len(groups):
        return False
    return all([root in roots_in_common(pool, group) for root, group in zip(roots, groups)])
