"""Caches: answers that are kept, and that follow the feed of their store."""

from authsync.errors import Refused
from authsync.names import split_token, token_of
from authsync.tokens import revision_of


class Cache:
    """Answers to a number of questions, each with the greatest revision at which it is known to be the answer."""

    def __init__(self, store, revision, capacity):
        self._store = store
        self._revision = revision
        self._capacity = capacity
        # From questions to (allowed, revision), the question whose last use is the earliest first.
        self._entries = {}

    def store_id(self):
        """Return the id of the store."""
        return self._store

    def revision(self):
        """Return the revision until which the feed was followed."""
        return self._revision

    def size(self):
        """Return the number of entries."""
        return len(self._entries)

    def questions(self):
        """Return the questions of the entries, the one whose last use is the earliest first."""
        return list(self._entries)

    def store(self, target, name, subject, answer):
        """Keep an answer to a question, unless a later one is known."""
        allowed, token = answer
        until = revision_of(token, self._store)
        if until > self._revision:
            raise Refused("answer is too new")
        question = (target, name, subject)
        known = self._entries.get(question)
        if known is None or known[1] < until:
            known = (allowed, until)
        self._use(question, known)
        if len(self._entries) > self._capacity:
            del self._entries[self.questions()[0]]

    def apply(self, entry):
        """Take the entry of the feed for the next revision."""
        store, revision, gained, lost = entry
        if store != self._store:
            raise Refused("entry of another store")
        if revision != self._revision + 1:
            raise Refused("not the next revision")
        for question in self.questions():
            if question in gained:
                self._entries[question] = (True, revision)
            elif question in lost:
                self._entries[question] = (False, revision)
            elif self._entries[question][1] == self._revision:
                self._entries[question] = (self._entries[question][0], revision)
        self._revision = revision

    def lookup(self, target, name, subject, at_least):
        """Return the answer to a question that is kept, None if there is none that is new enough."""
        least = 0 if at_least == "" else revision_of(at_least, self._store)
        question = (target, name, subject)
        known = self._entries.get(question)
        if known is None or known[1] < least:
            return None
        self._use(question, known)
        return (known[0], token_of(self._store, known[1]))

    def check(self, replica, target, name, subject, at_least):
        """Return the answer that is kept, or else that of a replica, which is kept if it is not too new."""
        if replica.store_id() != self._store:
            raise Refused("replica of another store")
        found = self.lookup(target, name, subject, at_least)
        if found is not None:
            return found
        answer = replica.check(target, name, subject, at_least)
        if split_token(answer[1])[1] <= self._revision:
            self.store(target, name, subject, answer)
        return answer

    def _use(self, question, known):
        """Make what is known of a question the entry that was used last."""
        self._entries.pop(question, None)
        self._entries[question] = known
