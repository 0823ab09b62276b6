"""Primaries: stores that keep relationships and schemas by revisions, and publish their changes."""

from authsync.changes import difference
from authsync.errors import Refused
from authsync.names import token_of
from authsync.schema import read_schema, schema_text
from authsync.tables import check_question, evaluate
from authsync.tokens import revision_of
from authsync.updates import updated

LAST_REVISION = 40


class State:
    """What one revision has: a schema, relationships that conform to it, and their table."""

    def __init__(self, schema, relationships):
        self.table = evaluate(schema, relationships)
        self.schema = schema
        self.links = sorted(relationships)


class Primary:
    """A store with an id and revisions, the present one and those that are not forgotten."""

    def __init__(self, store, text, relationships=()):
        first = State(read_schema(text), relationships)
        self._store = store
        self._oldest = 0
        self._states = [first]

    def store_id(self):
        """Return the id of the store."""
        return self._store

    def revision(self):
        """Return the present revision."""
        return self._oldest + len(self._states) - 1

    def oldest(self):
        """Return the oldest revision that is not forgotten."""
        return self._oldest

    def token(self):
        """Return the token of the present revision."""
        return token_of(self._store, self.revision())

    def write(self, updates):
        """Make a further revision by updates; return its token."""
        return self._go_on_to(self._written(updates))

    def migrate(self, text):
        """Make a further revision with the schema of a text; return its token."""
        return self._go_on_to(self._migrated(text))

    def preview(self, updates):
        """Return the change of the table that updates would make."""
        return difference(self._present().table, self._written(updates).table)

    def preview_migration(self, text):
        """Return the change of the table that going to the schema of a text would make."""
        return difference(self._present().table, self._migrated(text).table)

    def relationships(self, at):
        """Return the relationships of a revision."""
        return list(self._state_at(at).links)

    def schema_text(self, at):
        """Return the canonical text of the schema of a revision."""
        return schema_text(self._state_at(at).schema)

    def grants(self, at):
        """Return the table of a revision."""
        return list(self._state_at(at).table)

    def snapshot(self, at):
        """Return the snapshot of a revision."""
        return (self._store, self._revision_at(at), self.grants(at))

    def check(self, target, name, subject, at):
        """Return the answer to a question by a revision."""
        state = self._state_at(at)
        check_question(state.schema, target, name, subject)
        return ((target, name, subject) in state.table, token_of(self._store, self._revision_at(at)))

    def entry(self, revision):
        """Return the entry of the feed of a revision."""
        gained, lost = self.changes(revision - 1, revision)
        return (self._store, revision, gained, lost)

    def changes(self, first, second):
        """Return the change from the table of a revision to that of a later one."""
        if not self._oldest <= first <= second <= self.revision():
            raise Refused("no such revision")
        return difference(self._state_of(first).table, self._state_of(second).table)

    def compact(self, revision):
        """Forget all revisions before a revision."""
        if not self._oldest <= revision <= self.revision():
            raise Refused("no such revision")
        self._states = self._states[revision - self._oldest:]
        self._oldest = revision

    def _present(self):
        """Return the state of the present revision."""
        return self._states[-1]

    def _state_of(self, revision):
        """Return the state of a revision that is known."""
        return self._states[revision - self._oldest]

    def _revision_at(self, at):
        """Return the revision that a token names, the present one without a token."""
        if at == "":
            return self.revision()
        revision = revision_of(at, self._store)
        if not self._oldest <= revision <= self.revision():
            raise Refused("no such revision")
        return revision

    def _state_at(self, at):
        """Return the state of the revision that a token names, the present one without a token."""
        return self._state_of(self._revision_at(at))

    def _check_room(self):
        """Raise Refused if there cannot be a further revision."""
        if self.revision() >= LAST_REVISION:
            raise Refused("too many revisions")

    def _written(self, updates):
        """Return the state that updates would make."""
        self._check_room()
        present = self._present()
        return State(present.schema, updated(present.schema, present.links, updates))

    def _migrated(self, text):
        """Return the state that the schema of a text would make."""
        schema = read_schema(text)
        self._check_room()
        return State(schema, self._present().links)

    def _go_on_to(self, state):
        """Make a state that of a further revision; return its token."""
        self._states.append(state)
        return self.token()
