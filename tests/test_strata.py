"""Point 10: the strata of names."""

import random
import unittest

from model import model_strata, random_schema

from authsync.schema import read_schema, strata

BASE = "type u\ntype g\nrelation m: u, g#m\ntype d\nrelation a: u\nrelation b: u, g#m\nrelation up: d, g, g#m\n"


def strata_of_d(more):
    found = strata(read_schema(BASE + more))
    return {name: found[(kind, name)] for kind, name in found if kind == "d" and name not in ("a", "b", "up")}


class StrataTest(unittest.TestCase):
    def test_every_name_has_a_stratum(self):
        self.assertEqual(strata(read_schema(BASE)), {("g", "m"): 0, ("d", "a"): 0, ("d", "b"): 0, ("d", "up"): 0})
        self.assertEqual(strata(()), {})

    def test_exclusion_raises(self):
        found = strata_of_d("permission p = a - b\npermission q = a | p\npermission r = a & q - p\npermission s = b")
        self.assertEqual(found, {"p": 1, "q": 1, "r": 2, "s": 0})

    def test_only_the_excluded_term_raises(self):
        self.assertEqual(strata_of_d("permission p = a | b & a - b\npermission q = p - a | p"), {"p": 1, "q": 1})

    def test_names_before_the_lines_that_define_them(self):
        found = strata_of_d("permission s = a - r\npermission r = a - q\npermission q = a - p\npermission p = a")
        self.assertEqual(found, {"s": 3, "r": 2, "q": 1, "p": 0})

    def test_terms_with_a_relation(self):
        found = strata_of_d("permission m = a - b\npermission p = up.m\npermission q = a - up.p\npermission r = up.a")
        self.assertEqual(found, {"m": 1, "p": 1, "q": 2, "r": 0})

    def test_a_term_with_a_relation_needs_nothing_of_the_relation_itself(self):
        text = "type u\nrelation x: u\npermission n = x - x\ntype d\nrelation r: u, u#n\npermission p = r.x\n"
        found = strata(read_schema(text + "permission q = r"))
        self.assertEqual((found[("d", "r")], found[("d", "p")], found[("d", "q")]), (1, 0, 1))

    def test_a_relation_needs_the_names_of_its_subjects(self):
        found = strata(read_schema("type u\nrelation x: u\npermission n = x - x\nrelation y: u\nrelation z: u, u#n, u#y"))
        self.assertEqual((found[("u", "y")], found[("u", "z")]), (0, 1))

    def test_recursion_without_exclusion_shares_a_stratum(self):
        found = strata_of_d("permission p = a | up.q\npermission q = p - b | up.p")
        self.assertEqual(found, {"p": 1, "q": 1})

    def test_a_long_chain(self):
        lines = []
        for kind in range(8):
            lines += [f"type t{kind}", f"relation r: t{min(kind + 1, 7)}"]
            lines += [f"permission p{index} = r - p{index + 1}" for index in range(6)]
            lines.append("permission p6 = r - r.p0" if kind < 7 else "permission p6 = r")
        found = strata(read_schema("\n".join(lines)))
        self.assertEqual(found[("t0", "p0")], 55)
        self.assertEqual(found[("t7", "p6")], 0)

    def test_random_schemas_against_the_model(self):
        rng = random.Random(10)
        found = []
        for _ in range(200):
            schema = random_schema(rng)
            found.append(strata(schema))
            self.assertEqual(found[-1], model_strata(schema))
        self.assertGreater(max(max(levels.values()) for levels in found), 1)

    def test_a_returned_dict_is_the_callers(self):
        schema = read_schema(BASE)
        strata(schema).clear()
        self.assertEqual(len(strata(schema)), 4)
