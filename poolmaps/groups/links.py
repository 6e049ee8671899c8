"""Links: webs of a group that the roots of a web of the group cannot tell apart."""

from poolmaps.base.checks import are_ascending, are_numbers, check_number, is_number, is_pair
from poolmaps.base.pools import check_pool
from poolmaps.errors import InvalidNumber, InvalidOperation
from poolmaps.known.chains import classes_of, shortest_chain


def is_group(pool, value):
    """Whether the value is a group of the pool."""
    return are_ascending(value, 0, len(pool) - 1) and len(value) > 0


def check_group(pool, group):
    """Raises InvalidPool, or InvalidOperation for anything but a group of the pool."""
    check_pool(pool)
    if not is_group(pool, group):
        raise InvalidOperation("this is no group of the pool")


def is_member(group, value):
    """Whether the value is an index in the group."""
    return is_number(value, group[0], group[-1]) and value in group


def check_member(group, value):
    """Raises InvalidNumber for anything but an index in the group."""
    if not is_member(group, value):
        raise InvalidNumber(value)


def signals_of_roots(web, third):
    """The signals in a web of the threads that are roots of the third web."""
    return tuple([web.signals[root] for root in third.roots])


def are_alike(pool, one, other, third):
    """Whether the webs are alike, for indices that are checked already."""
    first, second, judging = pool.webs[one], pool.webs[other], pool.webs[third]
    return len(judging.roots) > 0 and signals_of_roots(first, judging) == signals_of_roots(second, judging)


def alike(pool, one, other, third):
    """Whether the webs one and other are alike for the third one."""
    check_pool(pool)
    for index in (one, other, third):
        check_number(index, 0, len(pool) - 1)
    return are_alike(pool, one, other, third)


def labels_by(pool, group, thirds):
    """A dict from the indices of the group to lists of pairs (third, signals of the third one's roots)."""
    return {
        index: [(third, signals_of_roots(pool.webs[index], pool.webs[third])) for third in thirds] for index in group
    }


def rooted_in(pool, group):
    """The list of the indices in the group whose webs have roots."""
    return [third for third in group if len(pool.webs[third].roots) > 0]


def root_labels(pool, group):
    """Such a dict in which two webs share a pair exactly if they are alike for some web of the group."""
    firsts = {}
    # Webs with the same roots judge alike, so the first one is enough.
    for third in rooted_in(pool, group):
        firsts.setdefault(pool.webs[third].roots, third)
    return labels_by(pool, group, list(firsts.values()))


def links_in(pool, group):
    """The ascending tuple of the links of the group."""
    check_group(pool, group)
    labels = labels_by(pool, group, rooted_in(pool, group))
    return tuple([
        (one, other, mine[0])
        for one in group for other in group if one < other
        for mine, theirs in zip(labels[one], labels[other]) if mine == theirs
    ])


def is_link(pool, group, value):
    """Whether the value is a link of the group."""
    check_group(pool, group)
    if not are_numbers(value, 0, len(pool) - 1) or len(value) != 3:
        return False
    one, other, third = value
    return one < other and all([index in group for index in value]) and are_alike(pool, one, other, third)


def check_two_members(pool, group, one, other):
    """The errors of what tells or judges a linked way between two indices."""
    check_group(pool, group)
    check_member(group, one)
    check_member(group, other)


def linked_way(pool, group, one, other):
    """A shortest linked way from one index to the other one."""
    check_two_members(pool, group, one, other)
    way = shortest_chain(root_labels(pool, group), one, other)
    if way is None:
        raise InvalidOperation("no linked way joins these indices")
    return way


def is_linked_step(pool, group, index, value):
    """Whether the value is a step of a linked way from this index to another one."""
    if not is_pair(value) or not is_member(group, value[0]) or not is_member(group, value[1]):
        return False
    return index != value[1] and are_alike(pool, index, value[1], value[0])


def is_linked_way(pool, group, one, other, value):
    """Whether the value is a linked way from one index to the other one."""
    check_two_members(pool, group, one, other)
    if not isinstance(value, tuple):
        return False
    index = one
    for step in value:
        if not is_linked_step(pool, group, index, step):
            return False
        index = step[1]
    return index == other


def parts_of(pool, group):
    """The ascending tuple of the groups into which linked ways part the group."""
    check_group(pool, group)
    return classes_of(root_labels(pool, group))
