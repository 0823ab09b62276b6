"""Texts of snapshots and of entries of a feed."""

from authsync.errors import BadFeed
from authsync.names import is_grant, is_identifier, read_revision


def write_snapshot(snapshot):
    """Return the text of a snapshot."""
    store, revision, grants = snapshot
    return "\n".join([f"snapshot {store} {revision}", *_grant_lines("=", grants)])


def write_feed(entries):
    """Return the text of entries of a feed."""
    lines = []
    for store, revision, gained, lost in entries:
        lines.append(f"entry {store} {revision}")
        lines.extend(_grant_lines("+", gained))
        lines.extend(_grant_lines("-", lost))
    return "\n".join(lines)


def read_snapshot(text):
    """Return the snapshot of a text; raise BadFeed for the first line with a fault."""
    lines = text.split("\n")
    head = _head_of("snapshot", 0, lines[0])
    if head is None:
        raise BadFeed(1, "head is expected")
    grants = []
    for number, line in enumerate(lines[1:], start=2):
        grant = _grant_of("=", line)
        if grant is None:
            raise BadFeed(number, "line is not known")
        if not _is_behind(grant, grants):
            raise BadFeed(number, "order is wrong")
        grants.append(grant)
    return (*head, grants)


def read_feed(text):
    """Return the list of the entries of a text; raise BadFeed for the first line with a fault."""
    entries = []
    if text == "":
        return entries
    gained = []
    lost = []
    for number, line in enumerate(text.split("\n"), start=1):
        head = _head_of("entry", 1, line)
        if head is not None:
            gained = []
            lost = []
            entries.append((*head, gained, lost))
            continue
        fault = "head is expected" if entries == [] else _fault_of(gained, lost, line)
        if fault != "":
            raise BadFeed(number, fault)
        if line.startswith("+"):
            gained.append(_grant_of("+", line))
        else:
            lost.append(_grant_of("-", line))
    return entries


def _grant_lines(sign, grants):
    """Return the lines of grants with a sign."""
    return [f"{sign} {target} {name} {subject}" for target, name, subject in grants]


def _head_of(word, least, line):
    """Return the store and the revision, of at least the least one, of a head; None if the line is none."""
    words = line.split(" ")
    if len(words) != 3 or words[0] != word or not is_identifier(words[1]):
        return None
    revision = read_revision(words[2])
    return None if revision is None or revision < least else (words[1], revision)


def _grant_of(sign, line):
    """Return the grant of a line with a sign, None if the line is none."""
    words = line.split(" ")
    if len(words) != 4 or words[0] != sign or not is_grant(words[1], words[2], words[3]):
        return None
    return (words[1], words[2], words[3])


def _is_behind(grant, grants):
    """Return whether a grant is greater than the last one of some grants, if there is one."""
    return grants == [] or grant > grants[-1]


def _fault_of(gained, lost, line):
    """Return what is wrong with a line behind those of some grants of an entry, the empty text if nothing is."""
    gain = _grant_of("+", line)
    loss = _grant_of("-", line)
    if gain is not None:
        return "" if lost == [] and _is_behind(gain, gained) else "order is wrong"
    if loss is None:
        return "line is not known"
    if not _is_behind(loss, lost):
        return "order is wrong"
    return "grant is in both" if loss in gained else ""
