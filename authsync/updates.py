"""Updates of relationships."""

from authsync.errors import Refused
from authsync.tables import conforms

RELATIONSHIP_LIMIT = 40


def _fault_of(schema, relationships, kind, relationship, earlier):
    """Return what is wrong with one update, the empty text if nothing is."""
    if not conforms(schema, relationship):
        return "update does not conform"
    if relationship in earlier:
        return "update is a duplicate"
    if kind == "create" and relationship in relationships:
        return "update already exists"
    if kind == "delete" and relationship not in relationships:
        return "update does not exist"
    return ""


def _check_updates(schema, relationships, updates):
    """Raise Refused for the first update of which something is wrong."""
    earlier = []
    for index, (kind, target, relation, reference) in enumerate(updates):
        relationship = (target, relation, reference)
        fault = _fault_of(schema, relationships, kind, relationship, earlier)
        if fault != "":
            raise Refused(fault, index)
        earlier.append(relationship)


def updated(schema, relationships, updates):
    """Return the relationships after updates, ascending; raise Refused if they cannot be made."""
    _check_updates(schema, relationships, updates)
    deleted = [(target, relation, reference) for kind, target, relation, reference in updates if kind == "delete"]
    made = [(target, relation, reference) for kind, target, relation, reference in updates if kind != "delete"]
    after = sorted(set(relationships) - set(deleted) | set(made))
    if len(after) > RELATIONSHIP_LIMIT:
        raise Refused("too many relationships")
    return after
