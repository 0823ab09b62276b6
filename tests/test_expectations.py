"""Point 46: expectations and their failures."""

import copy
import random

from model import Model, random_relationships, random_schema
from raising import RaisingTest

from authsync.certificates import certify, verify
from authsync.expectations import failures, read_expectations
from authsync.schema import read_schema

SCHEMA = read_schema("type user\ntype doc\nrelation owner: user\nrelation banned: user\npermission view = owner - banned")
OWNER = ("doc:a", "owner", "user:u")
BANNED = ("doc:a", "banned", "user:u")
VIEW = ("doc:a", "view", "user:u")
YES = (True, [("doc:a", "banned", 0), ("doc:a", "owner", 1), ("doc:a", "view", 1)])
NO = (False, [("doc:a", "banned", 1), ("doc:a", "owner", 1), ("doc:a", "view", 0)])
GOOD = "allow doc:a view user:u"


class ReadingTest(RaisingTest):
    def test_lines(self):
        self.assertEqual(read_expectations(GOOD), [(True, *VIEW)])
        self.assertEqual(read_expectations("deny doc:a view user:u"), [(False, *VIEW)])
        text = "deny doc:b own user:9\nallow doc:a view user:u\nallow allow:x deny deny:_\nallow doc:a view user:u"
        wanted = [(False, "doc:b", "own", "user:9"), (True, *VIEW), (True, "allow:x", "deny", "deny:_"), (True, *VIEW)]
        self.assertEqual(read_expectations(text), wanted)

    def test_what_is_wanted_is_a_truth_value(self):
        found = read_expectations(f"{GOOD}\ndeny doc:a view user:u")
        self.assertIs(found[0][0], True)
        self.assertIs(found[1][0], False)

    def test_texts_without_lines(self):
        for text in ("", " ", "    ", "\n", "\n\n", "  \n \n"):
            self.assertEqual(read_expectations(text), [])

    def test_lines_of_spaces_alone(self):
        for text in (f"\n{GOOD}", f"{GOOD}\n", f"   \n{GOOD}\n \n\n", f"\n\n\n{GOOD}"):
            self.assertEqual(read_expectations(text), [(True, *VIEW)])

    def test_spaces_between_and_around_the_parts(self):
        for text in (f" {GOOD}", f"{GOOD} ", f"   {GOOD}   ", GOOD.replace(" ", "   "), "allow doc:a   view  user:u "):
            self.assertEqual(read_expectations(text), [(True, *VIEW)])

    def test_lines_that_are_not_known(self):
        parts = GOOD.split(" ")
        wrong = {
            0: ["Allow", "allows", "yes", "allowed", "doc:a", "#", "-"],
            1: ["doc", "doc:", ":a", "doc:a#x", "Doc:a", "doc:A", "doc:a:b", "doc:" + "a" * 21, "1:a"],
            2: ["View", "_view", "1view", "view#", "doc:a", "v" * 21, "parent.view", "-"],
            3: ["user", "user:", "user:u#member", "user:U", "user:u,", "u" * 21 + ":u"],
        }
        bad_lines = [" ".join(parts[:place] + [word] + parts[place + 1:]) for place in wrong for word in wrong[place]]
        bad_lines += [f"{GOOD} user:u", "allow doc:a view", "allow doc:a", "allow", "doc:a view user:u", "a", f"{GOOD} #"]
        bad_lines += [f"{GOOD} {GOOD}", "allow doc:a viewuser:u", "allow doc :a view user:u", "allowdoc:a view user:u"]
        for bad in bad_lines:
            self.assert_bad_feed(1, "line is not known", read_expectations, bad)
            self.assert_bad_feed(4, "line is not known", read_expectations, f"{GOOD}\n\n  \n {bad} \n{GOOD}\n{bad}")


class FailuresTest(RaisingTest):
    def test_answers_as_they_are_wanted(self):
        self.assertEqual(failures(SCHEMA, [OWNER], [(True, *VIEW), (True, *OWNER), (False, *BANNED)]), [])
        self.assertEqual(failures(SCHEMA, [OWNER, BANNED], [(False, *VIEW)]), [])
        self.assertEqual(failures(SCHEMA, [], [(False, *VIEW)]), [])

    def test_no_expectations(self):
        self.assertEqual(failures(SCHEMA, [OWNER], []), [])
        self.assertEqual(failures(read_schema(""), [], []), [])

    def test_an_answer_of_no_where_yes_is_wanted(self):
        self.assertEqual(failures(SCHEMA, [OWNER, BANNED], [(True, *VIEW)]), [(0, NO)])

    def test_an_answer_of_yes_where_no_is_wanted(self):
        self.assertEqual(failures(SCHEMA, [OWNER], [(False, *VIEW)]), [(0, YES)])

    def test_the_indexes_are_those_of_the_expectations(self):
        expectations = [(True, *VIEW), (False, *VIEW), (True, *OWNER), (True, *BANNED), (False, *VIEW)]
        no = (False, [("doc:a", "banned", 0)])
        self.assertEqual(failures(SCHEMA, [OWNER], expectations), [(1, YES), (3, no), (4, YES)])

    def test_objects_without_relationships(self):
        no = (False, [("doc:z", "banned", 0), ("doc:z", "owner", 0), ("doc:z", "view", 0)])
        self.assertEqual(failures(SCHEMA, [OWNER], [(True, "doc:z", "view", "user:z")]), [(0, no)])

    def test_questions_that_the_schema_does_not_have(self):
        good = [(True, *VIEW)] * 3
        for what, question in (
            ("unknown type", ("page:a", "view", "user:u")), ("unknown type", ("doc:a", "view", "page:u")),
            ("unknown name", ("doc:a", "edit", "user:u")), ("unknown name", ("user:u", "view", "user:u")),
            ("unknown type", ("doc:a", "edit", "page:u")), ("unknown type", ("page:a", "edit", "user:u")),
        ):
            for wanted in (True, False):
                for index in range(4):
                    expectations = [*good[:index], (wanted, *question), *good[index:], (True, "x:y", "z", "x:y")]
                    self.assert_refused(what, index, failures, SCHEMA, [OWNER], expectations)

    def test_the_relationships_are_told_first(self):
        bad = ("doc:a", "owner", "doc:b")
        unknown = [(True, "page:a", "view", "user:u")]
        self.assert_refused("relationship does not conform", 1, failures, SCHEMA, [OWNER, bad], unknown)
        self.assert_refused("duplicate relationship", -1, failures, SCHEMA, [OWNER, OWNER], unknown)
        self.assert_refused("relationship does not conform", 0, failures, SCHEMA, [bad, bad], [])

    def test_any_schemas(self):
        rng = random.Random(46)
        effects = set()
        for _ in range(60):
            schema = random_schema(rng)
            rows = random_relationships(rng, schema, 10)
            table = Model(schema, rows).ranks
            names = [(kind, entry[0]) for kind, entries in schema for entry in entries]
            expectations = []
            for _ in range(8):
                kind, name = rng.choice(names)
                expectations.append((rng.random() < 0.5, f"{kind}:{rng.choice('ab')}", name, f"user:{rng.choice('ab')}"))
            expectations += [(rng.random() < 0.5, *grant) for grant in rng.sample(sorted(table), min(4, len(table)))]
            given = copy.deepcopy((schema, rows, expectations))
            found = failures(*given)
            self.assertEqual(given, (schema, rows, expectations))
            other = [index for index, one in enumerate(expectations) if (one[1:] in table) != one[0]]
            self.assertEqual([index for index, _ in found], other)
            for index, certificate in found:
                question = expectations[index][1:]
                self.assertEqual(certificate, certify(schema, rows, *question))
                self.assertTrue(verify(schema, rows, *question, certificate))
                effects.add(certificate[0])
        self.assertEqual(effects, {True, False})
