"""Content stores: versions of the contents of objects, shown to those to whom a name is granted."""

from authsync.errors import Refused
from authsync.primary import Primary

VERSION_LIMIT = 30


class ContentStore:
    """Versions of contents, with the tokens that a primary had when they were stored."""

    def __init__(self, primary):
        self._primary = primary
        self._versions = []

    def put(self, target, text):
        """Store a version of the content of an object; return its number and its token."""
        if len(self._versions) >= VERSION_LIMIT:
            raise Refused("too many versions")
        token = self._primary.token()
        self._versions.append((target, text, token))
        return (self.version(target), token)

    def version(self, target):
        """Return the number of the newest version of an object, 0 if there is none."""
        return len(self._versions_of(target))

    def token(self, target):
        """Return the token of the newest version of an object, the empty text if there is none."""
        if self.version(target) == 0:
            return ""
        return self._versions_of(target)[-1][1]

    def read(self, reader, target, name, subject):
        """Return the newest text of an object, its number and a token; None if the name is not granted."""
        if reader.store_id() != self._primary.store_id():
            raise Refused("reader of another store")
        versions = self._versions_of(target)
        if versions == []:
            raise Refused("no content")
        text, token = versions[-1]
        # The present revision of a primary is never too old, but it can have forgotten the one of the token.
        demanded = "" if isinstance(reader, Primary) else token
        allowed, answered = reader.check(target, name, subject, demanded)
        return (text, len(versions), answered) if allowed else None

    def _versions_of(self, target):
        """Return the texts and the tokens of the versions of an object."""
        return [(text, token) for other, text, token in self._versions if other == target]
