"""Sieves: pools from which webs are taken out, so that the threads can agree."""

from poolmaps.base.checks import are_ascending, check_many, is_number
from poolmaps.base.pools import blocks_of_some, check_pool
from poolmaps.errors import InvalidNumber, InvalidOperation, TooMany
from poolmaps.groups.closed import can_agree, roots_in_common, splitting

MAX_SEARCHED = 10


def groups_left(pool, indices):
    """The splitting of the pool of the webs with these indices, told by the indices of the whole pool."""
    groups = splitting(pool.picked(indices))
    return tuple([tuple([indices[place] for place in group]) for group in groups])


class Sieve:
    """A pool from which webs are taken out and put back one by one."""

    def __init__(self, pool):
        check_pool(pool)
        self._pool = pool
        self._past = []
        self.set_indices(tuple(range(len(pool))))

    def set_indices(self, indices):
        """Makes these the webs that are in."""
        self._indices = indices
        self._groups = groups_left(self._pool, indices)
        self._verdict = all([len(roots_in_common(self._pool, group)) > 0 for group in self._groups])

    @property
    def pool(self):
        """The whole pool."""
        return self._pool

    @property
    def indices(self):
        """The indices of the webs that are in."""
        return self._indices

    @property
    def groups(self):
        """The splitting of the pool of the webs that are in."""
        return self._groups

    @property
    def verdict(self):
        """Whether the pool of the webs that are in can agree."""
        return self._verdict

    def take_out(self, index):
        """Takes a web out, and tells the verdict then."""
        if index not in self:
            raise InvalidNumber(index)
        if len(self._indices) == 1:
            raise InvalidOperation("the last web stays in")
        self._past.append(self._indices)
        self.set_indices(tuple([each for each in self._indices if each != index]))
        return self._verdict

    def put_back(self, index):
        """Puts a web back that is out, and tells the verdict then."""
        if not is_number(index, 0, len(self._pool) - 1) or index in self._indices:
            raise InvalidNumber(index)
        self._past.append(self._indices)
        self.set_indices(tuple(sorted([*self._indices, index])))
        return self._verdict

    def undo(self, *, many=1):
        """Takes the last changes back, and tells the verdict then."""
        check_many(many, len(self._past))
        if many > 0:
            kept = len(self._past) - many
            self.set_indices(self._past[kept])
            self._past = self._past[:kept]
        return self._verdict

    def twin(self):
        """An equal sieve with an equal past that goes on by itself."""
        twin = Sieve(self._pool)
        twin.set_indices(self._indices)
        twin._past = list(self._past)
        return twin

    def __contains__(self, x):
        return is_number(x, 0, len(self._pool) - 1) and x in self._indices

    def __iter__(self):
        return iter(self._indices)

    def __len__(self):
        return len(self._indices)

    def __bool__(self):
        return bool(self._verdict)

    def __eq__(self, other):
        return isinstance(other, Sieve) and self._pool == other._pool and self._indices == other._indices

    def __str__(self):
        return f"sieve of {len(self._indices)} of {len(self._pool)} webs: {'yes' if self._verdict else 'no'}"


def has_root_somewhere(pool):
    """Whether some web of the pool has a root."""
    return any([len(web.roots) > 0 for web in pool.webs])


def agrees_without(pool, out):
    """Whether webs are left without those with these indices, and can agree."""
    left = tuple([index for index in range(len(pool)) if index not in out])
    return len(left) > 0 and can_agree(pool.picked(left))


def shortest_out(pool):
    """The first shortest tuple of indices to take out, for a pool with a root in some web."""
    outs = [(), *blocks_of_some(list(range(len(pool))))]
    for _, out in sorted([(len(out), out) for out in outs]):
        if agrees_without(pool, out):
            return out
    return None


def fewest_out(pool):
    """A shortest ascending tuple of indices without whose webs the pool can agree."""
    check_pool(pool)
    if not has_root_somewhere(pool):
        raise InvalidOperation("no web has a root")
    if len(pool) > MAX_SEARCHED:
        raise TooMany(MAX_SEARCHED)
    return shortest_out(pool)


def is_fewest_out(pool, value):
    """Whether the value is a shortest tuple without whose webs the pool can agree."""
    check_pool(pool)
    if len(pool) > MAX_SEARCHED:
        raise TooMany(MAX_SEARCHED)
    if not are_ascending(value, 0, len(pool) - 1) or not agrees_without(pool, value):
        return False
    return len(value) == len(shortest_out(pool))
