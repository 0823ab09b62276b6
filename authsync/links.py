"""Links: followers and primaries that speak by texts."""

from authsync.errors import BadFeed, Refused
from authsync.names import is_identifier, read_revision
from authsync.notation import read_feed, read_snapshot, write_feed, write_snapshot
from authsync.replica import Replica

ENTRIES_OF_AN_ANSWER = 10


def read_request(text):
    """Return the store, the revision and the revisions that wait of a request; raise BadFeed if it is none."""
    words = text.split(" ")
    if len(words) == 3:
        waiting = []
    elif len(words) == 5 and words[3] == "without":
        waiting = [read_revision(word) for word in words[4].split(",")]
    else:
        raise BadFeed(1, "no request")
    revision = read_revision(words[2])
    if words[0] != "want" or not is_identifier(words[1]) or revision is None or not _is_ascending(waiting):
        raise BadFeed(1, "no request")
    return (words[1], revision, waiting)


def _is_ascending(revisions):
    """Return whether all of some revisions could be read, and are ascending."""
    return None not in revisions and revisions == sorted(set(revisions))


def answer_to(primary, request):
    """Return the text by which a primary answers a request."""
    store, revision, waiting = read_request(request)
    if store != primary.store_id():
        raise Refused("request of another store")
    if revision > primary.revision():
        raise Refused("no such revision")
    if revision < primary.oldest():
        return write_snapshot(primary.snapshot(""))
    wanted = [number for number in range(revision + 1, primary.revision() + 1) if number not in waiting]
    return write_feed([primary.entry(number) for number in wanted[:ENTRIES_OF_AN_ANSWER]])


class Follower:
    """A replica that asks for texts and takes them."""

    def __init__(self, snapshot):
        self._replica = Replica(snapshot)

    def store_id(self):
        """Return the id of the store."""
        return self._replica.store_id()

    def revision(self):
        """Return the revision of the table."""
        return self._replica.revision()

    def check(self, target, name, subject, at_least):
        """Return the answer to a question, by a revision that is not less than the one that is demanded."""
        return self._replica.check(target, name, subject, at_least)

    def ask(self):
        """Return the request for what is missing."""
        request = f"want {self.store_id()} {self.revision()}"
        waiting = ",".join([str(revision) for revision in self._replica.waiting()])
        return request if waiting == "" else f"{request} without {waiting}"

    def take(self, text):
        """Take the text of entries or of a snapshot; return by how many revisions the follower went on."""
        before = self.revision()
        if text.startswith("snapshot"):
            self._take_snapshot(read_snapshot(text))
        else:
            for entry in read_feed(text):
                self._replica.receive(entry)
        return self.revision() - before

    def _take_snapshot(self, snapshot):
        """Let a snapshot of a greater revision take the place of the table and the revision."""
        if snapshot[0] != self.store_id():
            raise Refused("snapshot of another store")
        if snapshot[1] > self.revision():
            waiting = self._replica.waiting_entries()
            self._replica = Replica(snapshot)
            self._receive_again(waiting)

    def _receive_again(self, entries):
        """Receive entries that waited; those behind one that raises an error go on waiting."""
        for index, entry in enumerate(entries):
            try:
                self._replica.receive(entry)
            except Refused:
                for later in entries[index + 1:]:
                    self._replica.receive(later)
                raise
