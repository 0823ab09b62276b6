"""Point 15: the ranks of grants."""

import random
import unittest

from model import Model, random_relationships, random_schema

from authsync.schema import read_schema
from authsync.tables import ranked


def ranks_of(text, rows, subject="u:x"):
    ranks = ranked(read_schema(text), rows)
    return {(target, name): rank for (target, name, found), rank in ranks.items() if found == subject}


class RanksTest(unittest.TestCase):
    base = "type u\ntype d\nrelation a: u, d#a\nrelation b: u\nrelation c: u\nrelation up: d\n"

    def test_a_relationship_with_the_subject_counts_0(self):
        self.assertEqual(ranks_of(self.base, [("d:1", "a", "u:x")]), {("d:1", "a"): 1})
        self.assertEqual(ranked(read_schema(self.base), []), {})

    def test_a_chain_of_references_counts_from_its_end(self):
        rows = [("d:1", "a", "d:2#a"), ("d:2", "a", "d:3#a"), ("d:3", "a", "u:x"), ("d:3", "a", "d:1#a")]
        self.assertEqual(ranks_of(self.base, rows), {("d:1", "a"): 3, ("d:2", "a"): 2, ("d:3", "a"): 1})

    def test_the_least_of_several_relationships_counts(self):
        rows = [("d:1", "a", "d:2#a"), ("d:1", "a", "d:3#a"), ("d:2", "a", "d:3#a"), ("d:3", "a", "u:x")]
        self.assertEqual(ranks_of(self.base, rows)[("d:1", "a")], 2)
        self.assertEqual(ranks_of(self.base, [*rows, ("d:1", "a", "u:x")])[("d:1", "a")], 1)

    def test_union_takes_the_least_side(self):
        text = self.base + "permission p = a | b"
        chain = [("d:1", "a", "d:2#a"), ("d:2", "a", "u:x")]
        self.assertEqual(ranks_of(text, chain)[("d:1", "p")], 3)
        self.assertEqual(ranks_of(text, [*chain, ("d:1", "b", "u:x")])[("d:1", "p")], 2)
        self.assertEqual(ranks_of(self.base + "permission p = b | a", [*chain, ("d:1", "b", "u:x")])[("d:1", "p")], 2)

    def test_intersection_takes_the_greatest_side(self):
        rows = [("d:1", "a", "d:2#a"), ("d:2", "a", "u:x"), ("d:1", "b", "u:x")]
        for terms in ("a & b", "b & a"):
            self.assertEqual(ranks_of(self.base + "permission p = " + terms, rows)[("d:1", "p")], 3)

    def test_exclusion_takes_the_left_side(self):
        rows = [("d:1", "b", "u:x"), ("d:2", "c", "u:x")]
        found = ranks_of(self.base + "permission q = b - c\npermission p = q | b\npermission s = p - c", rows)
        self.assertEqual(found[("d:1", "q")], 1)
        self.assertEqual(found[("d:1", "p")], 1)
        self.assertEqual(found[("d:1", "s")], 2)

    def test_a_lower_stratum_counts_0(self):
        text = self.base + "permission q = a - b\npermission p = q | a\npermission s = q & p"
        rows = [("d:1", "a", "d:2#a"), ("d:2", "a", "d:3#a"), ("d:3", "a", "u:x")]
        found = ranks_of(text, rows)
        self.assertEqual([found[("d:1", name)] for name in "aqps"], [3, 1, 1, 2])

    def test_a_relation_that_leads_to_a_lower_stratum(self):
        text = "type u\ntype g\nrelation m: u, g#m\nrelation no: u\npermission n = m - no\nrelation r: g#m, g#n, g#r"
        rows = [("g:1", "m", "g:2#m"), ("g:2", "m", "u:x"), ("g:3", "r", "g:1#m"), ("g:4", "r", "g:1#n")]
        found = ranks_of(text, [*rows, ("g:5", "r", "g:3#r")])
        self.assertEqual(found[("g:1", "m")], 2)
        self.assertEqual([found[(target, "r")] for target in ("g:3", "g:4", "g:5")], [1, 2, 2])

    def test_several_terms_from_left_to_right(self):
        rows = [("d:1", "a", "d:2#a"), ("d:2", "a", "d:3#a"), ("d:3", "a", "u:x"), ("d:1", "b", "u:x")]
        self.assertEqual(ranks_of(self.base + "permission p = a | b & b", rows)[("d:1", "p")], 2)
        self.assertEqual(ranks_of(self.base + "permission p = b | b & a", rows)[("d:1", "p")], 4)
        self.assertEqual(ranks_of(self.base + "permission p = c & a | a", rows)[("d:1", "p")], 4)
        self.assertEqual(ranks_of(self.base + "permission p = a & a | b", rows)[("d:1", "p")], 2)

    def test_the_least_of_several_objects_counts(self):
        text = self.base + "permission p = b | up.p"
        rows = [("d:1", "up", "d:2"), ("d:2", "up", "d:3"), ("d:3", "b", "u:x"), ("d:1", "up", "d:4")]
        self.assertEqual(ranks_of(text, rows)[("d:1", "p")], 4)
        self.assertEqual(ranks_of(text, [*rows, ("d:4", "b", "u:x")])[("d:1", "p")], 3)

    def test_each_subject_has_its_own_rank(self):
        rows = [("d:1", "a", "d:2#a"), ("d:2", "a", "u:x"), ("d:1", "a", "u:y")]
        self.assertEqual(ranks_of(self.base, rows)[("d:1", "a")], 2)
        self.assertEqual(ranks_of(self.base, rows, "u:y"), {("d:1", "a"): 1})

    def test_random_ranks_against_the_model(self):
        rng = random.Random(15)
        greatest = 0
        for _ in range(300):
            schema = random_schema(rng)
            rows = random_relationships(rng, schema, 24)
            ranks = ranked(schema, rows)
            self.assertEqual(ranks, Model(schema, rows).ranks)
            greatest = max([greatest, *ranks.values()])
        self.assertGreater(greatest, 4)
