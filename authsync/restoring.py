"""Restoring the relationships of an earlier revision."""

from authsync.changes import difference
from authsync.errors import Refused
from authsync.primary import LAST_REVISION
from authsync.updates import RELATIONSHIP_LIMIT

UPDATES_OF_A_WRITE = 10


def updates_between(before, after):
    """Return the updates that turn relationships into others, in the order of the relationships."""
    made, deleted = difference(before, after)
    changed = [*[(one, "create") for one in made], *[(one, "delete") for one in deleted]]
    return [(kind, *relationship) for relationship, kind in sorted(changed)]


def restore(primary, at):
    """Write what makes the present relationships those of a revision; return the tokens of the further revisions."""
    wanted = primary.relationships(at)
    if primary.schema_text(at) != primary.schema_text(""):
        raise Refused("schema has changed")
    updates = updates_between(primary.relationships(""), wanted)
    ordered = [*_of_kind("delete", updates), *_of_kind("create", updates)]
    writes = [ordered[first:first + UPDATES_OF_A_WRITE] for first in range(0, len(ordered), UPDATES_OF_A_WRITE)]
    if primary.revision() + len(writes) > LAST_REVISION:
        raise Refused("too many revisions")
    # Revision 0 can have more relationships than a write can make; an error of a later write would come too late.
    if writes != [] and len(wanted) > RELATIONSHIP_LIMIT:
        raise Refused("too many relationships")
    return [primary.write(write) for write in writes]


def _of_kind(kind, updates):
    """Return the updates of a kind, in their order."""
    return [update for update in updates if update[0] == kind]
