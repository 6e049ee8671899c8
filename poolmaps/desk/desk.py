"""A desk: pools, tasks and rules under names, with claims that hold after each change."""

from poolmaps.base.checks import check_many
from poolmaps.base.pools import Pool
from poolmaps.desk.claims import holds, is_claim, is_name, names_in_claim, telling_of
from poolmaps.errors import InvalidName, InvalidOperation, Refused, TooMany, UnknownName
from poolmaps.tasks.rules import Rule
from poolmaps.tasks.tasks import Task

MAX_ENTRIES = 8
MAX_CLAIMS = 8


class Stand:
    """The entries and claims of a desk at some time. Stands never change."""

    def __init__(self, entries, claimed, tellings):
        self.entries = {name: entries[name] for name in sorted(entries)}
        self.claimed = claimed
        self.tellings = {name: tellings[name] for name in sorted(tellings)}

    def news_behind(self, elder):
        """The news of a change that leads from the elder stand to this one."""
        names = sorted(set([*elder.tellings, *self.tellings]))
        return tuple([
            (name, self.tellings.get(name)) for name in names
            if elder.tellings.get(name) != self.tellings.get(name)
        ])

    def check_claims_of(self, name):
        """Raises Refused for the first claim with this name that does not hold, or the error of deciding it."""
        # Claims without this name hold as before.
        for claim in self.claimed:
            if name in names_in_claim(claim) and not holds(claim, self.entries, self.tellings):
                raise Refused(claim)


class Desk:
    """Entries under names, claims about them, and the changes that can be taken back."""

    def __init__(self):
        self._now = Stand({}, (), {})
        self._past = ()
        self._future = ()

    def change_to(self, stand):
        """Makes a change, and tells its news."""
        news = stand.news_behind(self._now)
        self._past = (*self._past, self._now)
        self._future = ()
        self._now = stand
        return news

    def check_entry(self, name):
        """Raises UnknownName for anything but the name of an entry."""
        if not is_name(name) or name not in self._now.entries:
            raise UnknownName(name)

    def put(self, name, value):
        """Puts an entry under a name, perhaps in the place of another one."""
        if not is_name(name):
            raise InvalidName("this is no string of one to eight letters")
        if not isinstance(value, (Pool, Task, Rule)):
            raise InvalidOperation("this is no pool, task or rule")
        entries, tellings = dict(self._now.entries), dict(self._now.tellings)
        if name not in entries and len(entries) == MAX_ENTRIES:
            raise TooMany(MAX_ENTRIES)
        entries[name] = value
        tellings[name] = telling_of(value)
        stand = Stand(entries, self._now.claimed, tellings)
        stand.check_claims_of(name)
        return self.change_to(stand)

    def take(self, name):
        """Takes an entry away."""
        self.check_entry(name)
        entries = {each: value for each, value in self._now.entries.items() if each != name}
        tellings = {each: telling for each, telling in self._now.tellings.items() if each != name}
        stand = Stand(entries, self._now.claimed, tellings)
        stand.check_claims_of(name)
        return self.change_to(stand)

    def revise(self, name, change):
        """Puts what the call of `change` with the entry returns in its place."""
        self.check_entry(name)
        elder = self._now
        self.put(name, change(elder.entries[name]))
        # Not the news of putting, for the call of `change` can have changed the desk, too.
        return self._now.news_behind(elder)

    def demand(self, claim):
        """Adds a claim that holds from now on."""
        if not is_claim(claim) or claim in self._now.claimed:
            raise InvalidOperation("this is no claim, or is there already")
        for name in names_in_claim(claim):
            self.check_entry(name)
        if len(self._now.claimed) == MAX_CLAIMS:
            raise TooMany(MAX_CLAIMS)
        if not holds(claim, self._now.entries, self._now.tellings):
            raise Refused(claim)
        return self.change_to(Stand(self._now.entries, (*self._now.claimed, claim), self._now.tellings))

    def waive(self, claim):
        """Takes a claim away."""
        if not is_claim(claim) or claim not in self._now.claimed:
            raise InvalidOperation("this is no claim of the desk")
        claimed = tuple([each for each in self._now.claimed if each != claim])
        return self.change_to(Stand(self._now.entries, claimed, self._now.tellings))

    def undo(self, *, many=1):
        """Takes the last changes back, and tells the news."""
        check_many(many, len(self._past))
        line = (*self._past, self._now, *self._future)
        return self.stand_at(line, len(self._past) - many)

    def redo(self, *, many=1):
        """Does changes again that were taken back, and tells the news."""
        check_many(many, len(self._future))
        line = (*self._past, self._now, *self._future)
        return self.stand_at(line, len(self._past) + many)

    def stand_at(self, line, at):
        """Goes to another stand in the line of all stands, and tells the news."""
        news = line[at].news_behind(self._now)
        self._past, self._now, self._future = line[:at], line[at], line[at + 1:]
        return news

    def during(self, call):
        """What the call returns, behind which the desk is as before."""
        now, past, future = self._now, self._past, self._future
        try:
            return call(self)
        finally:
            self._now, self._past, self._future = now, past, future

    def twin(self):
        """An independent copy with the same changes to take back and to do again."""
        twin = Desk()
        twin._now, twin._past, twin._future = self._now, self._past, self._future
        return twin

    @property
    def names(self):
        """The ascending tuple of the names of the entries."""
        return tuple(self._now.entries)

    @property
    def claims(self):
        """The claims in the order of their demands."""
        return self._now.claimed

    @property
    def told(self):
        """The dict from the names to what is told of the entries."""
        return dict(self._now.tellings)

    def __getitem__(self, at):
        self.check_entry(at)
        return self._now.entries[at]

    def __contains__(self, x):
        return (is_name(x) and x in self._now.entries) or (is_claim(x) and x in self._now.claimed)

    def __iter__(self):
        return iter(self._now.entries)

    def __len__(self):
        return len(self._now.entries)

    def __eq__(self, other):
        return (
            isinstance(other, Desk) and self._now.entries == other._now.entries
            and self._now.claimed == other._now.claimed
        )

    def __str__(self):
        return f"desk of {len(self._now.entries)} entries, {len(self._now.claimed)} claims"
