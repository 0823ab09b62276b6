"""Certificates: answers, yes and no, that are verified without computing the table."""

from authsync.rounds import Rounds
from authsync.rules import Rules
from authsync.tables import check_question, check_relationships

RANK_LIMIT = 10000


def certify(schema, relationships, target, name, subject):
    """Return the certificate of a question."""
    check_relationships(schema, relationships)
    check_question(schema, target, name, subject)
    rules = Rules(schema, relationships)
    rounds = Rounds(rules, rules.reached_from((target, name)), subject)
    return certificate_by(rules, rounds, target, name, subject)


def certificate_by(rules, rounds, target, name, subject):
    """Return the certificate of a question whose pair and all on which it depends are among those of the rounds."""
    entries = [(*pair, rounds.rank(pair, subject)) for pair in sorted(rules.reached_from((target, name)))]
    return (rounds.rank((target, name), subject) > 0, entries)


def verify(schema, relationships, target, name, subject, certificate):
    """Return whether a certificate of a question is valid."""
    check_relationships(schema, relationships)
    check_question(schema, target, name, subject)
    allowed, entries = certificate
    if not _is_well_formed(entries):
        return False
    ranks = {(other, part): rank for other, part, rank in entries}
    if (target, name) not in ranks or (ranks[(target, name)] > 0) != (allowed is True):
        return False
    rules = Rules(schema, relationships)
    if not _is_closed(rules, ranks):
        return False
    return all(ranks[pair] == _rank_by_others(rules, pair, subject, ranks) for pair in ranks)


def _is_well_formed(entries):
    """Return whether the pairs of entries are ascending, and the ranks within their bounds."""
    pairs = [(target, name) for target, name, _ in entries]
    if pairs != sorted(set(pairs)):
        return False
    return all(0 <= entry[2] <= RANK_LIMIT for entry in entries)


def _is_closed(rules, ranks):
    """Return whether with each pair there are all pairs on which it depends."""
    return all(other in ranks for pair in ranks for other in rules.depends_on(pair))


def _rank_by_others(rules, pair, subject, ranks):
    """Return the rank of a pair that follows from the ranks of those on which it depends."""
    if rules.is_permission(pair):
        count = _permission_count(rules, pair, ranks)
    else:
        count = _relation_count(rules, pair, subject, ranks)
    return 0 if count is None else count + 1


def _relation_count(rules, pair, subject, ranks):
    """Return the count of a relation's rule, None if it does not hold."""
    if subject in rules.objects(pair):
        return 0
    return _least_count(rules, pair, rules.references(pair), ranks)


def _permission_count(rules, pair, ranks):
    """Return the count of a permission's rule, None if it does not hold."""
    count = None
    for operator, pairs in rules.terms(pair):
        count = _combined_count(operator, count, _least_count(rules, pair, pairs, ranks))
    return count


def _least_count(rules, pair, others, ranks):
    """Return the least count, for the rule of a pair, of the other pairs that are granted, None without one."""
    stratum = rules.stratum(pair)
    granted = [other for other in others if ranks[other] > 0]
    return min([0 if rules.stratum(other) < stratum else ranks[other] for other in granted], default=None)


def _combined_count(operator, left, right):
    """Return the count of an operator by the counts of its sides, None for what does not hold."""
    if operator == "-":
        return left if right is None else None
    if operator == "&":
        return None if left is None or right is None else max(left, right)
    return min([count for count in (left, right) if count is not None], default=None)
