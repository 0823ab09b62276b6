"""What the pairs of objects and names depend on."""

from authsync.names import split_reference, type_of
from authsync.schema import strata


class Rules:
    """A schema and relationships that conform to it, arranged for looking up pairs.

    The strata of the schema can be given, so that they are found once for many relationships.
    """

    def __init__(self, schema, relationships, levels=None):
        self._strata = strata(schema) if levels is None else levels
        self._terms = {
            (kind, name): parts for kind, entries in schema for name, word, parts in entries if word == "permission"
        }
        self._targets = {}
        self._objects = {}
        self._references = {}
        for target, relation, reference in relationships:
            self._targets[target] = True
            other, part = split_reference(reference)
            if part == "":
                self._objects.setdefault((target, relation), []).append(other)
            else:
                self._references.setdefault((target, relation), []).append((other, part))

    def pairs(self):
        """Return all pairs that can be granted: those of the objects that have relationships."""
        return [
            (target, name) for target in self._targets for kind, name in self._strata if kind == type_of(target)
        ]

    def stratum(self, pair):
        """Return the stratum of the name of a pair, 0 for a name that the schema does not have."""
        target, name = pair
        return self._strata.get((type_of(target), name), 0)

    def objects(self, pair):
        """Return the objects to which a relation leads directly."""
        return self._objects.get(pair, [])

    def references(self, pair):
        """Return the pairs to which a relation leads by references with a name."""
        return self._references.get(pair, [])

    def is_permission(self, pair):
        """Return whether the name of a pair is a permission of the type of its object."""
        target, name = pair
        return (type_of(target), name) in self._terms

    def terms(self, pair):
        """Return (operator, pairs to which the term leads) for each term of a permission, in order."""
        target, name = pair
        terms = self._terms[(type_of(target), name)]
        return [(operator, self._led_to(target, relation, needed)) for operator, relation, needed in terms]

    def _led_to(self, target, relation, name):
        """Return the pairs to which a term leads from an object."""
        if relation == "":
            return [(target, name)]
        objects = self.objects((target, relation))
        return [(other, name) for other in objects if (type_of(other), name) in self._strata]

    def depends_on(self, pair):
        """Return the pairs on which a pair depends directly."""
        if self.is_permission(pair):
            return [other for _, pairs in self.terms(pair) for other in pairs]
        return self.references(pair)

    def reached_from(self, pair):
        """Return a pair and all on which it depends, directly or not."""
        reached = {pair: True}
        waiting = [pair]
        while waiting:
            here = waiting.pop()
            for other in self.depends_on(here):
                if other not in reached:
                    reached[other] = True
                    waiting.append(other)
        return list(reached)
