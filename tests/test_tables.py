"""Points 13 and 14: relationships and questions that a schema has, and the table."""

import itertools
import random
import unittest

from model import Model, random_relationships, random_schema
from raising import RaisingTest

from authsync.schema import read_schema
from authsync.tables import check_question, check_relationships, conforms, evaluate, ranked

SCHEMA = read_schema("""type user
type group
  relation member: user, group#member
type doc
  relation parent: doc, group
  relation owner: user, group, group#member
  relation banned: user
  permission edit = owner | parent.edit
  permission view = edit - banned""")


class ConformingTest(RaisingTest):
    def test_what_conforms(self):
        for row in (
            ("group:g", "member", "user:u"), ("group:g", "member", "group:g#member"), ("doc:d", "parent", "doc:d"),
            ("doc:d", "owner", "group:g"), ("doc:d", "owner", "group:g#member"),
        ):
            self.assertIs(conforms(SCHEMA, row), True, row)

    def test_what_does_not_conform(self):
        for row in (
            ("file:f", "owner", "user:u"), ("user:u", "owner", "user:u"), ("doc:d", "member", "user:u"),
            ("doc:d", "edit", "user:u"), ("doc:d", "owner", "doc:d"), ("group:g", "member", "group:g"),
            ("doc:d", "parent", "group:g#member"), ("doc:d", "owner", "user:u#member"), ("doc:d", "owner", "file:f"),
            ("doc:d", "owner", "group:g#owner"), ("doc:d", "nothing", "user:u"),
        ):
            self.assertIs(conforms(SCHEMA, row), False, row)

    def test_relationships_without_errors(self):
        rows = [("group:g", "member", "user:u"), ("doc:d", "owner", "group:g"), ("doc:c", "owner", "group:g")]
        self.assertIsNone(check_relationships(SCHEMA, rows))
        self.assertIsNone(check_relationships(SCHEMA, []))

    def test_the_first_that_does_not_conform_is_told(self):
        good = ("group:g", "member", "user:u")
        bad = ("group:g", "member", "group:g")
        for call in (check_relationships, evaluate):
            self.assert_refused("relationship does not conform", 0, call, SCHEMA, [bad])
            self.assert_refused("relationship does not conform", 1, call, SCHEMA, [good, bad, good, bad])

    def test_duplicates(self):
        rows = [("group:g", "member", "user:u"), ("doc:d", "owner", "group:g"), ("group:g", "member", "user:u")]
        bad = ("doc:d", "edit", "user:u")
        for call in (check_relationships, evaluate):
            self.assert_refused("duplicate relationship", -1, call, SCHEMA, rows)
            self.assert_refused("relationship does not conform", 3, call, SCHEMA, [*rows, bad, bad])

    def test_questions(self):
        self.assertIsNone(check_question(SCHEMA, "doc:d", "view", "user:u"))
        self.assertIsNone(check_question(SCHEMA, "doc:d", "parent", "doc:x"))
        for target, name, subject, what in (
            ("file:f", "view", "user:u", "unknown type"), ("doc:d", "view", "file:f", "unknown type"),
            ("doc:d", "member", "file:f", "unknown type"), ("file:f", "member", "user:u", "unknown type"),
            ("doc:d", "member", "user:u", "unknown name"), ("user:u", "view", "user:u", "unknown name"),
        ):
            self.assert_refused(what, -1, check_question, SCHEMA, target, name, subject)


class TableTest(unittest.TestCase):
    def subjects(self, schema, rows, target, name):
        return [subject for found, part, subject in evaluate(schema, rows) if (found, part) == (target, name)]

    def test_a_table_is_ascending(self):
        rows = [("doc:d", "owner", "user:b"), ("doc:c", "owner", "user:z"), ("doc:d", "owner", "user:a")]
        self.assertEqual(evaluate(SCHEMA, rows), [
            ("doc:c", "edit", "user:z"), ("doc:c", "owner", "user:z"), ("doc:c", "view", "user:z"),
            ("doc:d", "edit", "user:a"), ("doc:d", "edit", "user:b"), ("doc:d", "owner", "user:a"),
            ("doc:d", "owner", "user:b"), ("doc:d", "view", "user:a"), ("doc:d", "view", "user:b"),
        ])
        self.assertEqual(evaluate(SCHEMA, []), [])
        self.assertEqual(evaluate((), []), [])

    def test_references_with_a_name(self):
        rows = [("doc:d", "owner", "group:g#member"), ("group:g", "member", "user:u")]
        self.assertEqual(self.subjects(SCHEMA, rows, "doc:d", "owner"), ["user:u"])
        rows = [("doc:d", "owner", "group:g"), ("group:g", "member", "user:u")]
        self.assertEqual(self.subjects(SCHEMA, rows, "doc:d", "owner"), ["group:g"])

    def test_recursive_groups(self):
        rows = [
            ("group:a", "member", "group:b#member"), ("group:b", "member", "group:c#member"),
            ("group:c", "member", "group:a#member"), ("group:b", "member", "user:u"), ("group:c", "member", "user:v"),
            ("group:d", "member", "group:d#member"),
        ]
        for group in ("group:a", "group:b", "group:c"):
            self.assertEqual(self.subjects(SCHEMA, rows, group, "member"), ["user:u", "user:v"])
        self.assertEqual(self.subjects(SCHEMA, rows, "group:d", "member"), [])

    def test_terms_with_a_relation(self):
        rows = [
            ("doc:a", "parent", "doc:b"), ("doc:b", "parent", "doc:c"), ("doc:c", "owner", "user:u"),
            ("doc:b", "banned", "user:u"), ("doc:a", "parent", "group:g"), ("group:g", "member", "user:v"),
        ]
        for target in ("doc:a", "doc:b", "doc:c"):
            self.assertEqual(self.subjects(SCHEMA, rows, target, "edit"), ["user:u"])
        self.assertEqual(self.subjects(SCHEMA, rows, "doc:b", "view"), [])
        self.assertEqual(self.subjects(SCHEMA, rows, "doc:a", "view"), ["user:u"])

    def test_a_term_with_a_relation_does_not_follow_references_with_a_name(self):
        schema = read_schema("type g\nrelation m: g, g#m\nrelation r: g\ntype d\nrelation x: g, g#m\npermission p = x.r")
        rows = [("d:d", "x", "g:a#m"), ("g:a", "m", "g:b"), ("g:a", "r", "g:q"), ("g:b", "r", "g:s")]
        self.assertEqual(self.subjects(schema, rows, "d:d", "p"), [])
        self.assertEqual(self.subjects(schema, [*rows, ("d:d", "x", "g:a")], "d:d", "p"), ["g:q"])

    def test_each_operator_from_left_to_right(self):
        relations = "type u\ntype d\nrelation a: u\nrelation b: u\nrelation c: u\n"
        joins = {"|": lambda x, y: x or y, "&": lambda x, y: x and y, "-": lambda x, y: x and not y}
        for one, two in itertools.product("|&-", repeat=2):
            schema = read_schema(relations + f"permission p = a {one} b {two} c")
            for held in itertools.product((False, True), repeat=3):
                rows = [("d:d", name, "u:u") for name, holds in zip("abc", held) if holds]
                wanted = joins[two](joins[one](held[0], held[1]), held[2])
                self.assertEqual(("d:d", "p", "u:u") in evaluate(schema, rows), wanted, (one, two, held))

    def test_exclusion_of_what_is_found_by_recursion(self):
        text = "type u\ntype d\nrelation own: u\nrelation up: d\npermission block = own | up.block\npermission free = "
        schema = read_schema(text + "up.own - block")
        rows = [("d:a", "up", "d:b"), ("d:b", "own", "u:x"), ("d:c", "up", "d:b"), ("d:b", "up", "d:c")]
        self.assertEqual(self.subjects(schema, rows, "d:a", "block"), ["u:x"])
        self.assertEqual(self.subjects(schema, rows, "d:a", "free"), [])
        schema = read_schema(text + "up.own - own")
        self.assertEqual(self.subjects(schema, rows, "d:a", "free"), ["u:x"])

    def test_exclusion_of_a_term_with_a_relation(self):
        text = "type u\ntype d\nrelation own: u\nrelation no: u\nrelation up: d\npermission free = own - up.no"
        rows = [("d:a", "own", "u:x"), ("d:a", "own", "u:y"), ("d:a", "up", "d:b"), ("d:a", "up", "d:c")]
        rows += [("d:c", "no", "u:x"), ("d:a", "no", "u:y")]
        self.assertEqual(self.subjects(read_schema(text), rows, "d:a", "free"), ["u:y"])

    def test_random_tables_against_the_model(self):
        rng = random.Random(14)
        sizes = []
        for _ in range(300):
            schema = random_schema(rng)
            rows = random_relationships(rng, schema, 24)
            before = list(rows)
            table = evaluate(schema, rows)
            self.assertEqual(table, sorted(Model(schema, rows).ranks))
            self.assertEqual(rows, before)
            self.assertEqual(evaluate(schema, tuple(reversed(rows))), table)
            self.assertEqual(sorted(ranked(schema, rows)), table)
            sizes.append(len(table))
        self.assertGreater(max(sizes), 40)
