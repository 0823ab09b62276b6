"""Expansions: the trees of what grants a name on an object, and the subjects that have it."""

from authsync.names import type_of
from authsync.rounds import Rounds
from authsync.rules import Rules
from authsync.tables import check_name, check_relationships


def who(schema, relationships, target, name):
    """Return the subjects that have a name on an object, ascending."""
    rules = _checked_rules(schema, relationships, target, name)
    rounds = Rounds(rules, rules.reached_from((target, name)))
    return rounds.holders((target, name))


def expand(schema, relationships, target, name):
    """Return the expansion of a pair of an object and a name."""
    trees = Trees(_checked_rules(schema, relationships, target, name))
    return trees.tree_of((target, name))


def _checked_rules(schema, relationships, target, name):
    """Return the rules of relationships in ascending order; raise Refused if they or a pair have an error."""
    check_relationships(schema, relationships)
    check_name(schema, type_of(target), name)
    return Rules(schema, sorted(relationships))


class Trees:
    """The trees of places: of pairs, each with those above it to which it comes back.

    What else stands above a pair has no effect on its tree, so that the tree of a place is made
    once and stands wherever the place occurs, which can be more often than could be counted.
    """

    def __init__(self, rules):
        self._rules = rules
        self._reached = {}
        self._trees = {}

    def tree_of(self, pair):
        """Return the tree with a pair at the root."""
        root = (pair, ())
        waiting = [root]
        # A loop instead of recursion, as a tree can be deeper than calls may be nested.
        while waiting:
            place = waiting[-1]
            missing = [below for below in self._places_below(place) if below not in self._trees]
            if missing == []:
                self._trees[place] = self._joined(place)
                waiting.pop()
            else:
                waiting.extend(missing)
        return self._trees[root]

    def _places_below(self, place):
        """Return the places directly below a place, without the pairs that stand above themselves there."""
        pair, above = place
        path = (*above, pair)
        return [self._place_of(below, path) for below in self._rules.depends_on(pair) if below not in path]

    def _place_of(self, pair, path):
        """Return the place of a pair below others."""
        if pair not in self._reached:
            self._reached[pair] = {other: True for other in self._rules.reached_from(pair)}
        return (pair, tuple(sorted([other for other in path if other in self._reached[pair]])))

    def _joined(self, place):
        """Return the tree of a place, given all trees below it."""
        pair, above = place
        path = (*above, pair)
        if self._rules.is_permission(pair):
            terms = [(operator, self._trees_of(pairs, path)) for operator, pairs in self._rules.terms(pair)]
            return ("permission", *pair, tuple(terms))
        direct = tuple(self._rules.objects(pair))
        return ("relation", *pair, direct, self._trees_of(self._rules.references(pair), path))

    def _trees_of(self, pairs, path):
        """Return the trees of pairs that stand below others."""
        return tuple([
            ("above", *pair) if pair in path else self._trees[self._place_of(pair, path)] for pair in pairs
        ])
