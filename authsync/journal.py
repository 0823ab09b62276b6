"""Journals: logs of the answers that clients get, and the texts of logs."""

from authsync.errors import BadFeed
from authsync.names import is_grant, is_identifier, read_revision, split_token

WORDS_OF_A_LINE = 7


class Journal:
    """A log, and the token of the last answer of each client."""

    def __init__(self):
        self._lines = []
        self._tokens = {}

    def ask(self, client, reader, target, name, subject):
        """Ask a reader for a client; return the answer, which is noted."""
        demanded = self.token_of(client)
        allowed, token = reader.check(target, name, subject, demanded)
        after = 0 if demanded == "" else split_token(demanded)[1]
        self._lines.append((client, target, name, subject, allowed, after, reader.revision()))
        self._tokens[client] = token
        return (allowed, token)

    def log(self):
        """Return the log."""
        return list(self._lines)

    def token_of(self, client):
        """Return the token of the last answer of a client, the empty text if there is none."""
        return self._tokens.get(client, "")

    def forget(self, client):
        """Forget the last answer of a client."""
        self._tokens.pop(client, None)


def write_log(log):
    """Return the text of a log."""
    return "\n".join([_line_text(*line) for line in log])


def read_log(text):
    """Return the log of a text; raise BadFeed for the first line that is none of a log."""
    log = []
    if text == "":
        return log
    for number, line in enumerate(text.split("\n"), start=1):
        words = line.split(" ")
        if not _is_line(words):
            raise BadFeed(number, "line is not known")
        client, target, name, subject, answer, after, before = words
        log.append((client, target, name, subject, answer == "yes", int(after), int(before)))
    return log


def _line_text(client, target, name, subject, allowed, after, before):
    """Return the text of a line of a log."""
    answer = "yes" if allowed else "no"
    return f"{client} {target} {name} {subject} {answer} {after} {before}"


def _is_line(words):
    """Return whether words are those of a line of a log."""
    if len(words) != WORDS_OF_A_LINE:
        return False
    client, target, name, subject, answer, after, before = words
    if not is_identifier(client) or not is_grant(target, name, subject) or answer not in ("yes", "no"):
        return False
    return read_revision(after) is not None and read_revision(before) is not None
