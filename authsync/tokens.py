"""What a token demands of a store."""

from authsync.errors import Refused
from authsync.names import split_token


def revision_of(token, store):
    """Return the revision that a token names; raise Refused unless it is one of the store."""
    told = split_token(token)
    if told is None or told[0] != store:
        raise Refused("token of another store")
    return told[1]
