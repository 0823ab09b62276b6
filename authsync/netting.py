"""Several entries of a feed together: their net change, and what they are to subjects and grants."""

from authsync.changes import compose
from authsync.errors import Refused


def net_change(entries):
    """Return the composition of the changes of entries that follow one another."""
    _check_row(entries)
    net = ([], [])
    for _, _, gained, lost in entries:
        net = compose(net, (gained, lost))
    return net


def news_for(entries, subject):
    """Return (revision, effect, object, name) for each grant of a subject that entries change, in order."""
    _check_row(entries)
    return [
        (revision, effect, target, name)
        for revision, effect, (target, name, holder) in _effects_of(entries)
        if holder == subject
    ]


def flips(entries):
    """Return (grant, its effects with their revisions) for each grant that several entries change, ascending."""
    _check_row(entries)
    changes = {}
    for revision, effect, grant in _effects_of(entries):
        changes.setdefault(grant, []).append((revision, effect))
    return [(grant, changes[grant]) for grant in sorted(changes) if len(changes[grant]) > 1]


def digest(entries):
    """Return (subject, pairs that it gains, pairs that it loses) for each subject of the net change, ascending."""
    gained, lost = net_change(entries)
    subjects = sorted({subject for _, _, subject in [*gained, *lost]})
    return [(subject, _pairs_of(gained, subject), _pairs_of(lost, subject)) for subject in subjects]


def _check_row(entries):
    """Raise Refused for the first entry that does not follow the one before it."""
    for index in range(1, len(entries)):
        store, revision, _, _ = entries[index - 1]
        if entries[index][0] != store:
            raise Refused("entry of another store", index)
        if entries[index][1] != revision + 1:
            raise Refused("entry is not the next one", index)


def _effects_of(entries):
    """Return (revision, effect, grant) for all that entries gain and lose, in order."""
    effects = []
    for _, revision, gained, lost in entries:
        effects.extend([(revision, "gained", grant) for grant in gained])
        effects.extend([(revision, "lost", grant) for grant in lost])
    return effects


def _pairs_of(grants, subject):
    """Return the pairs of objects and names of the grants of a subject, in order."""
    return [(target, name) for target, name, holder in grants if holder == subject]
