"""What if: the effects of going from a schema and relationships to others."""

from authsync.certificates import certificate_by
from authsync.changes import difference
from authsync.errors import Refused
from authsync.rounds import Rounds
from authsync.rules import Rules
from authsync.tables import check_question, check_relationships


class Side:
    """A schema and relationships with all grants and certificates by them."""

    def __init__(self, schema, relationships):
        check_relationships(schema, relationships)
        self._schema = schema
        self._rules = Rules(schema, relationships)
        self._rounds = Rounds(self._rules, self._rules.pairs())

    def grants(self):
        """Return the table."""
        return sorted(self._rounds.ranks())

    def certificate(self, target, name, subject):
        """Return the certificate of a question, None if the schema does not have it."""
        try:
            check_question(self._schema, target, name, subject)
        except Refused:
            return None
        return certificate_by(self._rules, self._rounds, target, name, subject)


def effects(schema, relationships, other_schema, other_relationships):
    """Return (object, name, subject, effect, certificate before, certificate after) for each grant that changes."""
    before = Side(schema, relationships)
    after = Side(other_schema, other_relationships)
    gained, lost = difference(before.grants(), after.grants())
    changed = [*[(grant, "gained") for grant in gained], *[(grant, "lost") for grant in lost]]
    return [
        (*grant, effect, before.certificate(*grant), after.certificate(*grant)) for grant, effect in sorted(changed)
    ]
