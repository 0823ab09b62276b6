"""Watches: the objects on which a subject has a name, as they come and go."""

from authsync.changes import without
from authsync.errors import Refused
from authsync.names import token_of


class Watch:
    """The objects on which a subject has a name by a revision, which follow the feed."""

    def __init__(self, snapshot, name, subject):
        store, revision, grants = snapshot
        self._store = store
        self._revision = revision
        self._name = name
        self._subject = subject
        self._objects = self._concerned(grants)

    def revision(self):
        """Return the revision until which the feed was followed."""
        return self._revision

    def token(self):
        """Return the token of this revision."""
        return token_of(self._store, self._revision)

    def objects(self):
        """Return the objects on which the subject has the name."""
        return list(self._objects)

    def advance(self, entry):
        """Take the entry of the feed for the next revision; return the objects that are gained and lost by it."""
        store, revision, gained, lost = entry
        if store != self._store:
            raise Refused("entry of another store")
        if revision != self._revision + 1:
            raise Refused("not the next revision")
        come = self._concerned(gained)
        gone = self._concerned(lost)
        self._objects = without([*self._objects, *come], gone)
        self._revision = revision
        return (come, gone)

    def _concerned(self, grants):
        """Return the objects of those grants that have the name and the subject, ascending."""
        return [target for target, name, subject in grants if (name, subject) == (self._name, self._subject)]
