"""Slow reckonings for groups of webs and agreement, by the definitions alone."""

from itertools import combinations, product

from tests.support import is_int, is_int_tuple, looks_like_word, plain_words, slow_classes, slow_known, slow_sight


def slow_roots(web):
    """The threads whose news is with all if they go on long enough."""
    roots = []
    for thread in range(web.size):
        holders = {thread}
        for _ in range(web.size):
            holders = holders | {each for each in range(web.size) if holders & set(web.heard[each])}
        if len(holders) == web.size:
            roots.append(thread)
    return roots


def slow_alike(pool, one, other, third):
    first, second = pool.webs[one], pool.webs[other]
    roots = slow_roots(pool.webs[third])
    return bool(roots) and all(
        (first.heard[root], first.marks[root]) == (second.heard[root], second.marks[root]) for root in roots)


def looks_like_group(pool, value):
    return (is_int_tuple(value) and len(value) > 0 and list(value) == sorted(set(value))
            and 0 <= value[0] and value[-1] < len(pool.webs))


def slow_links(pool, group):
    return [
        (one, other, third) for one, other, third in product(group, repeat=3)
        if one < other and slow_alike(pool, one, other, third)
    ]


def slow_parts(pool, group):
    links = slow_links(pool, group)
    near = {(one, other) for one, other, _ in links}
    return slow_classes(group, lambda one, other: (one, other) in near or (other, one) in near)


def slow_steps(pool):
    steps = [(tuple(range(len(pool.webs))),)]
    while True:
        behind = tuple(sorted(part for group in steps[-1] for part in slow_parts(pool, group)))
        if behind == steps[-1]:
            return tuple(steps)
        steps.append(behind)


def slow_common_roots(pool, group):
    return tuple(t for t in range(pool.size) if all(t in slow_roots(pool.webs[index]) for index in group))


def all_groups(pool):
    indices = range(len(pool.webs))
    return [group for many in range(1, len(pool.webs) + 1) for group in combinations(indices, many)]


def slow_is_linked_way(pool, group, one, other, value):
    if type(value) is not tuple:
        return False
    for step in value:
        if not is_int_tuple(step) or len(step) != 2 or not set(step) <= set(group) or step[1] == one:
            return False
        if not slow_alike(pool, one, step[1], step[0]):
            return False
        one = step[1]
    return one == other


def slow_is_certificate(pool, value):
    """The definition of an agreement certificate, sentence by sentence."""
    if type(value) is not tuple or len(value) != 2:
        return False
    levels, roots = value
    if type(levels) is not tuple or not 1 <= len(levels) <= 100 or not is_int_tuple(roots):
        return False
    for level in levels:
        if type(level) is not tuple or not all(looks_like_group(pool, group) for group in level):
            return False
        if list(level) != sorted(set(level)):
            return False
        if sorted(index for group in level for index in group) != list(range(len(pool.webs))):
            return False
    if len(levels[0]) != 1 or len(roots) != len(levels[-1]):
        return False
    for elder, level in zip(levels, levels[1:]):
        for group in level:
            if not any(set(group) <= set(each) for each in elder):
                return False
        place = {index: group for group in level for index in group}
        for group in elder:
            for one, other, third in slow_links(pool, group):
                if place[one] != place[other]:
                    return False
    return all(root in slow_common_roots(pool, group) for root, group in zip(roots, levels[-1]))


def slow_view(pool, word, thread, row):
    """The view itself, as a tree of all that the thread knows, with the inputs."""
    if not word:
        return (thread, row[thread])
    web = pool.webs[word[-1]]
    asked = sorted({thread, *web.heard[thread]})
    return (thread, web.marks[thread], tuple(slow_view(pool, word[:-1], each, row) for each in asked))


def slow_agree_in(pool, rounds, many=2):
    """Whether there is a rule: runs with a view in common have one output, which is an input of each."""
    leader = {}

    def first(name):
        while leader.setdefault(name, name) != name:
            name = leader[name]
        return name

    runs = list(product(product(range(many), repeat=pool.size), plain_words(pool, rounds)))
    for row, word in runs:
        for thread in range(pool.size):
            leader[first((row, word))] = first(slow_view(pool, word, thread, row))
    shared = {}
    for row, word in runs:
        name = first((row, word))
        shared[name] = shared.get(name, set(row)) & set(row)
    return all(shared.values())


def unknown_somewhere(pool, words):
    """Whether each thread is unknown to some thread behind one of the words."""
    return all(
        any(thread not in known for word in words for known in slow_known(pool, word)) for thread in range(pool.size))


def slow_is_bar(pool, rounds, value):
    if type(value) is not tuple or len(value) != 2 or not looks_like_word(pool, value[0]):
        return False
    word, way = value
    if len(word) != rounds or type(way) is not tuple or len(way) > 15000:
        return False
    words = [word]
    for step in way:
        if type(step) is not tuple or len(step) != 2 or not is_int(step[0]) or not 0 <= step[0] < pool.size:
            return False
        if not looks_like_word(pool, step[1]) or len(step[1]) != rounds:
            return False
        if slow_sight(pool, words[-1], step[0]) != slow_sight(pool, step[1], step[0]):
            return False
        words.append(step[1])
    return unknown_somewhere(pool, words)
