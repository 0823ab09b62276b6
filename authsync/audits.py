"""Audits: whether a log of answers is possible."""

from authsync.errors import Refused


def _is_held(turns, revision):
    """Return whether a grant, which is gained and lost in turn at some revisions, is held at a revision."""
    return len([turn for turn in turns if turn <= revision]) & 1 == 1


def _applies(turns, revision, gained, lost):
    """Return whether a change applies to the table that a revision has by the turns before it."""
    gained_twice = [grant for grant in gained if _is_held(turns.get(grant, []), revision)]
    lost_twice = [grant for grant in lost if not _is_held(turns.get(grant, []), revision)]
    return gained_twice == [] and lost_twice == []


def _turns_of(snapshot, entries):
    """Return the dict from grants to the revisions at which they are gained and lost in turn."""
    store, first, grants = snapshot
    turns = {grant: [first] for grant in grants}
    for index, (other, revision, gained, lost) in enumerate(entries):
        if other != store:
            raise Refused("entry of another store", index)
        if revision != first + index + 1:
            raise Refused("entry is not the next one", index)
        if not _applies(turns, revision, gained, lost):
            raise Refused("entry does not apply", index)
        for grant in [*gained, *lost]:
            turns.setdefault(grant, []).append(revision)
    return turns


def audit(snapshot, entries, log):
    """Return True and the least revisions that explain a log, or False and the index of the line that none explain."""
    turns = _turns_of(snapshot, entries)
    first = snapshot[1]
    last = first + len(entries)
    reached = {}
    revisions = []
    for index, (client, target, name, subject, allowed, after, before) in enumerate(log):
        earliest = max(after, reached.get(client, first), first)
        held = turns.get((target, name, subject), [])
        # The least revision of each line leaves the most to the later lines of the client.
        fitting = [number for number in range(earliest, min(before, last) + 1) if _is_held(held, number) == allowed]
        if fitting == []:
            return (False, index)
        reached[client] = fitting[0]
        revisions.append(fitting[0])
    return (True, revisions)
