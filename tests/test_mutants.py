"""Points 47 and 48: mutants of schemas, and those that no expectation tells."""

import copy
import random

from model import Model, kind_of, model_strata, parts_of, random_relationships, random_schema
from raising import RaisingTest

from authsync.errors import BadSchema
from authsync.expectations import mutants, mutated, untold
from authsync.schema import read_schema, schema_text, strata
from authsync.tables import conforms, evaluate

TEXT = """type user
type group
  relation member: user, group#member
type doc
  relation parent: doc
  relation owner: user, group#member
  relation banned: user
  permission view = owner | parent.view - banned
  permission edit = owner & view"""
SCHEMA = read_schema(TEXT)
OWNER = ("doc:a", "owner", "user:u")
BANNED = ("doc:a", "banned", "user:u")
TEAM = ("doc:a", "owner", "group:g#member")
MEMBER = ("group:g", "member", "user:u")


def changed(old, new, text=TEXT):
    """The schema of a text in which something is put in another's place."""
    assert old in text
    return read_schema(text.replace(old, new))


class MutantsTest(RaisingTest):
    def test_in_the_order_of_the_schema_and_of_the_parts(self):
        self.assertEqual(mutants(SCHEMA), [
            ("group", "member", 0, "left out"), ("group", "member", 1, "left out"),
            ("doc", "owner", 0, "left out"), ("doc", "owner", 1, "left out"),
            ("doc", "view", 1, "left out"), ("doc", "view", 1, "&"), ("doc", "view", 1, "-"),
            ("doc", "view", 2, "left out"), ("doc", "view", 2, "|"), ("doc", "view", 2, "&"),
            ("doc", "edit", 1, "left out"), ("doc", "edit", 1, "|"), ("doc", "edit", 1, "-"),
        ])

    def test_one_subject_and_one_term_have_no_mutants(self):
        self.assertEqual(mutants(read_schema("type doc\nrelation r: doc\npermission p = r\npermission q = r.p")), [])

    def test_schemas_without_mutants(self):
        for text in ("", "type user", "type user\ntype doc"):
            self.assertEqual(mutants(read_schema(text)), [])

    def test_several_subjects(self):
        schema = read_schema("type z\nrelation r: z, z#r, z\ntype a\nrelation r: a, z")
        self.assertEqual(mutants(schema), [
            ("z", "r", 0, "left out"), ("z", "r", 1, "left out"), ("z", "r", 2, "left out"),
            ("a", "r", 0, "left out"), ("a", "r", 1, "left out"),
        ])

    def test_the_schemas_of_mutants(self):
        for mutant, old, new in (
            (("group", "member", 0, "left out"), "member: user, group#member", "member: group#member"),
            (("group", "member", 1, "left out"), "member: user, group#member", "member: user"),
            (("doc", "owner", 0, "left out"), "owner: user, group#member", "owner: group#member"),
            (("doc", "view", 1, "left out"), "owner | parent.view - banned", "owner - banned"),
            (("doc", "view", 1, "&"), "owner | parent.view", "owner & parent.view"),
            (("doc", "view", 2, "left out"), "parent.view - banned", "parent.view"),
            (("doc", "view", 2, "|"), "parent.view - banned", "parent.view | banned"),
            (("doc", "edit", 1, "left out"), "owner & view", "owner"),
            (("doc", "edit", 1, "|"), "owner & view", "owner | view"),
            (("doc", "edit", 1, "-"), "owner & view", "owner - view"),
        ):
            self.assertEqual(mutated(SCHEMA, mutant), changed(old, new))

    def test_a_name_of_two_types_is_changed_in_one(self):
        text = "type user\ntype a\nrelation r: user, a\npermission p = r\ntype b\nrelation r: user, a\npermission p = r | r"
        schema = read_schema(text)
        wanted = read_schema(text.replace("type b\nrelation r: user, a", "type b\nrelation r: a"))
        self.assertEqual(mutated(schema, ("b", "r", 0, "left out")), wanted)

    def test_the_schema_itself_stays(self):
        for mutant in mutants(SCHEMA):
            mutated(SCHEMA, mutant)
        self.assertEqual(SCHEMA, read_schema(TEXT))

    def test_a_mutant_without_strata(self):
        self.assertIsNone(mutated(SCHEMA, ("doc", "view", 1, "-")))
        schema = read_schema("type doc\nrelation r: doc\npermission p = r | p & q\npermission q = r | p")
        valid = {mutant: mutated(schema, mutant) is not None for mutant in mutants(schema)}
        self.assertEqual(valid, {
            ("doc", "p", 1, "left out"): True, ("doc", "p", 1, "&"): True, ("doc", "p", 1, "-"): False,
            ("doc", "p", 2, "left out"): True, ("doc", "p", 2, "|"): True, ("doc", "p", 2, "-"): False,
            ("doc", "q", 1, "left out"): True, ("doc", "q", 1, "&"): True, ("doc", "q", 1, "-"): False,
        })

    def test_a_mutant_with_a_term_that_leads_nowhere(self):
        text = "type user\ntype doc\nrelation r: user, doc, doc#p\npermission p = r | r.p"
        schema = read_schema(text)
        self.assertEqual(mutated(schema, ("doc", "r", 0, "left out")), changed("user, doc,", "doc,", text))
        self.assertIsNone(mutated(schema, ("doc", "r", 1, "left out")))
        self.assertEqual(mutated(schema, ("doc", "r", 2, "left out")), changed(", doc#p", "", text))

    def test_a_term_that_another_subject_still_leads_somewhere(self):
        schema = read_schema("type a\nrelation x: a\ntype b\nrelation x: b\ntype c\nrelation r: a, b\npermission p = r.x")
        for index in (0, 1):
            self.assertIsNotNone(mutated(schema, ("c", "r", index, "left out")))

    def test_a_mutant_can_have_mutants_again(self):
        once = mutated(SCHEMA, ("doc", "view", 1, "left out"))
        self.assertEqual(mutated(once, ("doc", "view", 1, "|")), changed("| parent.view - banned", "| banned"))
        self.assertEqual(evaluate(once, [OWNER, BANNED])[1], OWNER)

    def test_any_mutants(self):
        rng = random.Random(47)
        seen = set()
        for _ in range(80):
            schema = random_schema(rng)
            for mutant in mutants(schema):
                self.check_mutant(schema, mutant, seen)
        self.assertEqual(seen, {"valid", "no strata", "leads nowhere"})

    def check_mutant(self, schema, mutant, seen):
        kind, name, index, change = mutant
        word, parts = parts_of(schema, kind, name)[1:]
        edited = list(parts)
        if change == "left out":
            del edited[index]
        else:
            edited[index] = (change, *parts[index][1:])
        wanted = tuple(
            (known, tuple((*one[:2], tuple(edited)) if (known, one[0]) == (kind, name) else one for one in entries))
            for known, entries in schema
        )
        found = mutated(schema, mutant)
        try:
            self.assertEqual(read_schema(schema_text(wanted)), wanted)
        except BadSchema as fault:
            self.assertIsNone(found)
            seen.add({"recursion through exclusion": "no strata", "unknown name": "leads nowhere"}[fault.what])
        else:
            self.assertEqual((found, word), (wanted, parts_of(found, kind, name)[1]))
            self.assertEqual(strata(found), model_strata(wanted))
            seen.add("valid")


class UntoldTest(RaisingTest):
    def test_without_relationships_and_expectations_all_that_are_valid(self):
        wanted = [mutant for mutant in mutants(SCHEMA) if mutant != ("doc", "view", 1, "-")]
        self.assertEqual(untold(SCHEMA, [], []), wanted)

    def test_a_mutant_to_which_a_relationship_does_not_conform(self):
        without = [("doc", "owner", 0, "left out"), ("doc", "owner", 1, "left out")]
        for rows, gone in (([OWNER], without[:1]), ([TEAM], without[1:]), ([TEAM, OWNER, BANNED], without)):
            found = untold(SCHEMA, rows, [])
            self.assertEqual([mutant for mutant in untold(SCHEMA, [], []) if mutant not in found], gone)

    def test_a_mutant_that_changes_an_answer(self):
        text = "type user\ntype doc\nrelation a: user\nrelation b: user\npermission p = a | b"
        schema = read_schema(text)
        left_out, both, less = ("doc", "p", 1, "left out"), ("doc", "p", 1, "&"), ("doc", "p", 1, "-")
        a, b, p = [("doc:x", name, "user:u") for name in "abp"]
        self.assertEqual(untold(schema, [], [(True, *p)]), [left_out, both, less])
        self.assertEqual(untold(schema, [a], [(True, *p)]), [left_out, less])
        self.assertEqual(untold(schema, [b], [(True, *p)]), [])
        self.assertEqual(untold(schema, [a, b], [(True, *p)]), [left_out, both])
        self.assertEqual(untold(schema, [a, b], [(True, *a), (False, *b)]), [left_out, both, less])
        several = [("doc:y", "a", "user:u"), a, b]
        questions = [(True, *p), (True, "doc:y", "p", "user:u")]
        self.assertEqual(untold(schema, several, questions), [left_out])
        self.assertEqual(untold(schema, several, list(reversed(questions))), [left_out])

    def test_what_is_wanted_has_no_influence(self):
        for rows in ([], [OWNER], [OWNER, BANNED], [TEAM, MEMBER]):
            questions = [("doc:a", "view", "user:u"), ("doc:a", "edit", "user:u")]
            found = [untold(SCHEMA, rows, [(wanted, *one) for one in questions]) for wanted in (True, False)]
            self.assertEqual(found[0], found[1])

    def test_errors(self):
        bad = ("doc:a", "owner", "doc:b")
        unknown = (True, "page:a", "view", "user:u")
        good = (True, "doc:a", "view", "user:u")
        self.assert_refused("relationship does not conform", 1, untold, SCHEMA, [OWNER, bad], [unknown])
        self.assert_refused("duplicate relationship", -1, untold, SCHEMA, [OWNER, OWNER], [unknown])
        self.assert_refused("unknown type", 0, untold, SCHEMA, [OWNER], [unknown, good])
        self.assert_refused("unknown type", 2, untold, SCHEMA, [OWNER], [good, good, unknown, unknown])
        self.assert_refused("unknown name", 1, untold, SCHEMA, [OWNER], [good, (False, "doc:a", "no", "user:u"), unknown])
        self.assert_refused("unknown type", 1, untold, SCHEMA, [OWNER], [good, (False, "doc:a", "no", "no:u")])
        users = read_schema("type user")
        self.assert_refused("unknown type", 0, untold, users, [], [good])

    def test_any_schemas(self):
        rng = random.Random(48)
        kept = told = 0
        for _ in range(40):
            schema = random_schema(rng)
            rows = random_relationships(rng, schema, 8)
            table = Model(schema, rows).ranks
            names = [(kind, entry[0]) for kind, entries in schema for entry in entries]
            chosen = [rng.choice(names) for _ in range(3)]
            questions = [(f"{kind}:{rng.choice('ab')}", name, f"user:{rng.choice('ab')}") for kind, name in chosen]
            questions += rng.sample(sorted(table), min(3, len(table)))
            given = copy.deepcopy((schema, rows, [(rng.random() < 0.5, *question) for question in questions]))
            wanted = [one for one in mutants(schema) if self.is_untold(mutated(schema, one), rows, questions, table)]
            self.assertEqual(untold(*given), wanted)
            self.assertEqual((given[:2], [one[1:] for one in given[2]]), ((schema, rows), questions))
            kept += len(wanted)
            told += len(mutants(schema)) - len(wanted)
        self.assertGreater(min(kept, told), 100)

    def is_untold(self, schema, rows, questions, table):
        if schema is None or not all(conforms(schema, row) for row in rows):
            return False
        other = Model(schema, rows).ranks
        self.assertTrue(all(parts_of(schema, kind_of(question[0]), question[1]) for question in questions))
        return [question in other for question in questions] == [question in table for question in questions]
