"""Demands: the newest tokens of several stores."""

from authsync.errors import BadFeed
from authsync.names import split_token, token_of


class Demand:
    """The greatest revision that was noted of each of some stores."""

    def __init__(self):
        self._newest = {}

    def note(self, token):
        """Note a token; return whether it is newer than all that were known of its store."""
        store, revision = split_token(token)
        if store in self._newest and revision <= self._newest[store]:
            return False
        self._newest[store] = revision
        return True

    def take(self, other):
        """Note all tokens of another demand; return how many of them were newer."""
        newer = 0
        for token in other.tokens():
            if self.note(token):
                newer += 1
        return newer

    def token_for(self, store):
        """Return the newest token of a store, the empty text if there is none."""
        return token_of(store, self._newest[store]) if store in self._newest else ""

    def tokens(self):
        """Return the newest tokens, in ascending order of the stores."""
        return [self.token_for(store) for store in sorted(self._newest)]

    def text(self):
        """Return the text of the demand."""
        return " ".join(self.tokens())

    def is_met(self, store, revision):
        """Return whether a revision of a store meets the demand."""
        return store not in self._newest or revision >= self._newest[store]


def read_demand(text):
    """Return the demand of a text; raise BadFeed if it is none."""
    demand = Demand()
    words = [] if text == "" else text.split(" ")
    for word in words:
        if split_token(word) is None:
            raise BadFeed(1, "no demand")
        demand.note(word)
    # What is in another order or told twice is not written in the same way again.
    if demand.text() != text:
        raise BadFeed(1, "no demand")
    return demand
