"""Replicas: tables that follow the feed of a store."""

from authsync.changes import applies, apply_change
from authsync.errors import Refused
from authsync.names import token_of
from authsync.tokens import revision_of

GRANT_LIMIT = 12800
AHEAD_LIMIT = 40


class Replica:
    """A revision and its table, and the changes of later revisions that wait."""

    def __init__(self, snapshot):
        store, revision, grants = snapshot
        self._store = store
        self._revision = revision
        self._grants = sorted(grants)
        self._waiting = {}

    def store_id(self):
        """Return the id of the store."""
        return self._store

    def revision(self):
        """Return the revision of the table."""
        return self._revision

    def receive(self, entry):
        """Take an entry of the feed; return the number of entries that were applied."""
        store, revision, gained, lost = entry
        if store != self._store:
            raise Refused("entry of another store")
        change = (list(gained), list(lost))
        if revision <= self._revision or self._waiting.get(revision) == change:
            return 0
        self._check_entry(revision, change)
        self._waiting[revision] = change
        return self._take_waiting()

    def waiting(self):
        """Return the revisions of the entries that wait."""
        return sorted(self._waiting)

    def waiting_entries(self):
        """Return the entries that wait, in the order of their revisions."""
        return [self._waiting_entry(revision) for revision in self.waiting()]

    def check(self, target, name, subject, at_least):
        """Return the answer to a question, by a revision that is not less than the one that is demanded."""
        if at_least != "" and revision_of(at_least, self._store) > self._revision:
            raise Refused("replica is behind")
        return ((target, name, subject) in self._grants, token_of(self._store, self._revision))

    def snapshot(self):
        """Return the snapshot of the revision of the table."""
        return (self._store, self._revision, list(self._grants))

    def _waiting_entry(self, revision):
        """Return the entry of a revision that waits."""
        gained, lost = self._waiting[revision]
        return (self._store, revision, list(gained), list(lost))

    def _check_entry(self, revision, change):
        """Raise Refused if the entry of a later revision cannot wait or be applied."""
        if revision in self._waiting:
            raise Refused("conflicting entry")
        if revision > self._revision + AHEAD_LIMIT:
            raise Refused("entry is too far ahead")
        if revision == self._revision + 1 and not self._fits(change):
            raise Refused("entry does not apply")

    def _fits(self, change):
        """Return whether a change applies to the table and leaves it small enough."""
        gained, lost = change
        return applies(self._grants, change) and len(self._grants) - len(lost) + len(gained) <= GRANT_LIMIT

    def _take_waiting(self):
        """Apply the entries of the next revisions that wait, as long as they fit; return their number."""
        applied = 0
        while self._revision + 1 in self._waiting:
            change = self._waiting.pop(self._revision + 1)
            if not self._fits(change):
                break
            self._grants = apply_change(self._grants, change)
            self._revision += 1
            applied += 1
        return applied
