"""Changes of sets of grants: what is gained and what is lost."""

from authsync.errors import Refused


def without(rows, others):
    """Return the rows that are not among others, ascending."""
    return sorted(set(rows) - set(others))


def _in_both(grants, others):
    """Return the grants that are among others, ascending."""
    return sorted(set(grants) & set(others))


def difference(before, after):
    """Return the change that turns the grants before into the grants after."""
    return (without(after, before), without(before, after))


def applies(grants, change):
    """Return whether a change applies to grants."""
    gained, lost = change
    return _in_both(gained, grants) == [] and without(lost, grants) == []


def apply_change(grants, change):
    """Return the grants into which a change turns grants, ascending."""
    if not applies(grants, change):
        raise Refused("change does not apply")
    gained, lost = change
    return sorted([*without(grants, lost), *gained])


def compose(first, second):
    """Return the composition of two changes."""
    if _in_both(first[0], second[0]) != [] or _in_both(first[1], second[1]) != []:
        raise Refused("changes do not compose")
    gained = [*first[0], *second[0]]
    lost = [*first[1], *second[1]]
    return (without(gained, lost), without(lost, gained))
