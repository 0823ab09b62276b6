"""Why a grant is there, or is not: the fewest relationships that would change this."""

from itertools import combinations

from authsync.changes import without
from authsync.errors import Refused
from authsync.rounds import Rounds
from authsync.rules import Rules
from authsync.schema import strata
from authsync.tables import check_question, check_relationships

TRIAL_LIMIT = 12


def revoking(schema, relationships, target, name, subject):
    """Return the fewest relationships without which a grant is revoked; None if there is no such grant."""
    check_relationships(schema, relationships)
    check_question(schema, target, name, subject)
    _check_number(relationships)
    trials = Trials(schema, (target, name), subject)
    if not trials.is_granted(relationships):
        return None
    for left_out in _choices(relationships):
        if not trials.is_granted(without(relationships, left_out)):
            return left_out
    return None


def giving(schema, relationships, candidates, target, name, subject):
    """Return the fewest candidates with which a grant is given; None if it is given with no choice of them."""
    check_relationships(schema, relationships)
    check_relationships(schema, candidates)
    check_question(schema, target, name, subject)
    _check_number(candidates)
    trials = Trials(schema, (target, name), subject)
    # What is a relationship already gives nothing more.
    for added in _choices(without(candidates, relationships)):
        if trials.is_granted([*relationships, *added]):
            return added
    return None


class Trials:
    """The question whether a subject has a name on an object, asked again and again by other relationships."""

    def __init__(self, schema, pair, subject):
        self._schema = schema
        self._strata = strata(schema)
        self._pair = pair
        self._subject = subject

    def is_granted(self, relationships):
        """Return whether the question is answered with yes by relationships."""
        rules = Rules(self._schema, relationships, self._strata)
        rounds = Rounds(rules, rules.reached_from(self._pair), self._subject)
        return rounds.rank(self._pair, self._subject) > 0


def _check_number(relationships):
    """Raise Refused if there are too many relationships to try all choices of them."""
    if len(relationships) > TRIAL_LIMIT:
        raise Refused("too many to try")


def _choices(relationships):
    """Return all choices of relationships, ascending each, the smaller ones first and then the lesser ones."""
    ordered = sorted(relationships)
    choices = []
    for size in range(len(ordered) + 1):
        choices.extend([list(choice) for choice in combinations(ordered, size)])
    return choices
