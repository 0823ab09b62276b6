"""Successions: rows of primaries, each of which takes over what the last one has."""

from authsync.errors import Refused
from authsync.names import split_token
from authsync.primary import Primary
from authsync.tokens import revision_of


class Succession:
    """A present primary, and the ids of the earlier ones with the last revisions before they handed over."""

    def __init__(self, primary):
        self._primary = primary
        self._last_revisions = {}

    def primary(self):
        """Return the present primary."""
        return self._primary

    def ids(self):
        """Return the ids of all stores of the row, the earliest first."""
        return [*self._last_revisions, self._primary.store_id()]

    def hand_over(self, store):
        """Make a further primary, which begins with the present schema and relationships; return its token."""
        if store in self.ids():
            raise Refused("duplicate store")
        earlier = self._primary
        further = Primary(store, earlier.schema_text(""), earlier.relationships(""))
        self._last_revisions[earlier.store_id()] = earlier.revision()
        self._primary = further
        return further.token()

    def demanded(self, token):
        """Return the revision of the present store that a token of a store of the row demands."""
        told = split_token(token)
        if told is None or told[0] not in self._last_revisions:
            return revision_of(token, self._primary.store_id())
        if told[1] > self._last_revisions[told[0]]:
            raise Refused("token was left behind")
        return 0
