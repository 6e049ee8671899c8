"""Chains of items in which neighbors share a label, as words share sights.

`labels` is always a dict from items, ascending, to the lists of their labels. A label is a tuple;
its first part is the name by which a step along the label is told.
"""


def bearers_of(labels):
    """A dict from each label to the list of the items that bear it."""
    bearers = {}
    for item, borne in labels.items():
        for label in borne:
            bearers.setdefault(label, []).append(item)
    return bearers


def reach(labels, bearers, starts):
    """A dict from the items that chains from the starts reach to how a shortest chain ends.

    This is a triple: the number of steps, the name of the last label, and the item in front.
    Labels that were gone through are taken out of `bearers`, for they lead to nothing new.
    """
    found = {item: (0, None, None) for item in starts}
    queue = list(starts)
    at = 0
    while at < len(queue):
        item = queue[at]
        at += 1
        for label in labels[item]:
            others = bearers.pop(label, [])
            for other in others:
                if other not in found:
                    found[other] = (found[item][0] + 1, label[0], item)
                    queue.append(other)
    return found


def class_of(labels, item):
    """The ascending tuple of the items to which chains lead from this one."""
    return tuple(sorted(reach(labels, bearers_of(labels), [item])))


def classes_of(labels):
    """The ascending tuple of the classes of items that chains join."""
    bearers = bearers_of(labels)
    placed = {}
    classes = []
    for item in labels:
        if item not in placed:
            together = tuple(sorted(reach(labels, bearers, [item])))
            classes.append(together)
            for each in together:
                placed[each] = True
    return tuple(classes)


def shortest_chain(labels, one, other):
    """A shortest chain, as a tuple of pairs (name of a label, item), or None if there is none."""
    found = reach(labels, bearers_of(labels), [one])
    if other not in found:
        return None
    steps = []
    item = other
    while item != one:
        _, name, front = found[item]
        steps.append((name, item))
        item = front
    return tuple(steps[::-1])
