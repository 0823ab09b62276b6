"""Expectations of answers, and the mutants of a schema that no expectation tells from it."""

from authsync.errors import BadFeed, Refused
from authsync.names import is_grant
from authsync.rounds import Rounds
from authsync.rules import Rules
from authsync.schema import kinds_led_to, strata
from authsync.tables import check_question, check_relationships, conforms
from authsync.whatif import Side

OPERATORS = ("|", "&", "-")
LEFT_OUT = "left out"


def read_expectations(text):
    """Return the expectations of a text; raise BadFeed for the first line that is none."""
    expectations = []
    for number, line in enumerate(text.split("\n"), start=1):
        words = [word for word in line.split(" ") if word != ""]
        if words == []:
            continue
        if not _is_expectation(words):
            raise BadFeed(number, "line is not known")
        expectations.append((words[0] == "allow", *words[1:]))
    return expectations


def _is_expectation(words):
    """Return whether words are those of an expectation."""
    return len(words) == 4 and words[0] in ("allow", "deny") and is_grant(words[1], words[2], words[3])


def failures(schema, relationships, expectations):
    """Return (index, certificate) for each expectation whose question is answered otherwise."""
    side = Side(schema, relationships)
    _check_questions(schema, expectations)
    certificates = [side.certificate(target, name, subject) for _, target, name, subject in expectations]
    return [
        (index, certificate)
        for index, certificate in enumerate(certificates)
        if certificate[0] != expectations[index][0]
    ]


def _check_questions(schema, expectations):
    """Raise Refused for the first expectation whose question a schema does not have."""
    for index, (_, target, name, subject) in enumerate(expectations):
        try:
            check_question(schema, target, name, subject)
        except Refused as refused:
            raise Refused(refused.what, index) from None


def mutants(schema):
    """Return the mutants of a schema, in the order of the schema and of the parts."""
    return [
        (kind, name, index, change)
        for kind, entries in schema
        for name, word, parts in entries
        for index in range(len(parts))
        for change in _changes_of(word, parts, index)
    ]


def _changes_of(word, parts, index):
    """Return what can be changed at the part of a relation or a permission with an index."""
    if word == "relation":
        return [LEFT_OUT] if len(parts) > 1 else []
    if index == 0:
        return []
    return [LEFT_OUT, *[operator for operator in OPERATORS if operator != parts[index][0]]]


def mutated(schema, mutant):
    """Return the schema of a mutant, None if it is not valid."""
    changed = tuple([
        (kind, tuple([_changed_entry(kind, entry, mutant) for entry in entries])) for kind, entries in schema
    ])
    return changed if _is_valid(changed) else None


def _changed_entry(kind, entry, mutant):
    """Return what a mutant makes of an entry of a type."""
    name, word, parts = entry
    changed_kind, changed_name, index, change = mutant
    if (kind, name) != (changed_kind, changed_name):
        return entry
    if change == LEFT_OUT:
        changed = []
    else:
        _, relation, needed = parts[index]
        changed = [(change, relation, needed)]
    return (name, word, (*parts[:index], *changed, *parts[index + 1:]))


def _is_valid(schema):
    """Return whether each term of a mutant's schema leads to a name, and the schema has strata."""
    leading = all(
        relation == "" or kinds_led_to(schema, kind, relation, needed) != []
        for kind, entries in schema
        for _, word, parts in entries
        if word == "permission"
        for _, relation, needed in parts
    )
    return leading and strata(schema) is not None


def untold(schema, relationships, expectations):
    """Return the mutants that conform to relationships and answer all expectations as a schema itself does."""
    check_relationships(schema, relationships)
    _check_questions(schema, expectations)
    answers = _answers(schema, relationships, expectations)
    return [
        mutant
        for mutant in mutants(schema)
        if _has_answers(mutated(schema, mutant), relationships, expectations, answers)
    ]


def _has_answers(schema, relationships, expectations, answers):
    """Return whether a mutant's schema is valid, fits relationships, and gives the answers to expectations."""
    if schema is None or not all(conforms(schema, relationship) for relationship in relationships):
        return False
    return _answers(schema, relationships, expectations) == answers


def _answers(schema, relationships, expectations):
    """Return the answers to the questions of expectations, for relationships without errors."""
    rules = Rules(schema, relationships)
    reached = {pair: True for _, target, name, _ in expectations for pair in rules.reached_from((target, name))}
    rounds = Rounds(rules, reached)
    return [rounds.rank((target, name), subject) > 0 for _, target, name, subject in expectations]
