"""Tables: the grants that a schema and relationships determine, and their ranks."""

from authsync.errors import Refused
from authsync.names import split_reference, type_of
from authsync.rounds import Rounds
from authsync.rules import Rules
from authsync.schema import definition, has_type


def conforms(schema, relationship):
    """Return whether a relationship conforms to a schema."""
    target, relation, reference = relationship
    found = definition(schema, type_of(target), relation)
    if found is None or found[0] != "relation":
        return False
    other, name = split_reference(reference)
    return (type_of(other), name) in found[1]


def check_relationships(schema, relationships):
    """Raise Refused if a relationship does not conform, or occurs twice."""
    for index, relationship in enumerate(relationships):
        if not conforms(schema, relationship):
            raise Refused("relationship does not conform", index)
    if len(set(relationships)) < len(relationships):
        raise Refused("duplicate relationship")


def check_question(schema, target, name, subject):
    """Raise Refused if a schema does not have a question."""
    if not has_type(schema, type_of(subject)):
        raise Refused("unknown type")
    check_name(schema, type_of(target), name)


def check_name(schema, kind, name):
    """Raise Refused if a schema does not have a type, or the type not a name."""
    if not has_type(schema, kind):
        raise Refused("unknown type")
    if definition(schema, kind, name) is None:
        raise Refused("unknown name")


def ranked(schema, relationships):
    """Return the dict from the grants of the table to their ranks, for relationships without errors."""
    rules = Rules(schema, relationships)
    rounds = Rounds(rules, rules.pairs())
    return rounds.ranks()


def evaluate(schema, relationships):
    """Return the table of a schema and relationships, ascending."""
    check_relationships(schema, relationships)
    return sorted(ranked(schema, relationships))
