"""Point 45: the effects of going from a schema and relationships to others."""

import copy
import random

from model import Model, random_relationships, random_schema
from raising import RaisingTest

from authsync.certificates import certify, verify
from authsync.schema import read_schema
from authsync.whatif import effects

TEXT = "type user\ntype doc\nrelation owner: user\nrelation banned: user\npermission view = owner - banned"
SCHEMA = read_schema(TEXT)
OWNER = ("doc:a", "owner", "user:u")
BANNED = ("doc:a", "banned", "user:u")


class EffectsTest(RaisingTest):
    def test_nothing_changes(self):
        self.assertEqual(effects(SCHEMA, [], SCHEMA, []), [])
        self.assertEqual(effects(SCHEMA, [OWNER, BANNED], SCHEMA, [BANNED, OWNER]), [])

    def test_gained_and_lost_are_ascending_together(self):
        yes = (True, [("doc:a", "banned", 0), ("doc:a", "owner", 1), ("doc:a", "view", 1)])
        no = (False, [("doc:a", "banned", 1), ("doc:a", "owner", 1), ("doc:a", "view", 0)])
        banned = ("doc:a", "banned", "user:u", "gained", (False, [("doc:a", "banned", 0)]), (True, [("doc:a", "banned", 1)]))
        self.assertEqual(
            effects(SCHEMA, [OWNER], SCHEMA, [OWNER, BANNED]), [banned, ("doc:a", "view", "user:u", "lost", yes, no)]
        )
        back = effects(SCHEMA, [BANNED, OWNER], SCHEMA, [OWNER])
        self.assertEqual([one[:4] for one in back], [(*banned[:3], "lost"), ("doc:a", "view", "user:u", "gained")])
        self.assertEqual([one[4:] for one in back], [(banned[5], banned[4]), (no, yes)])

    def test_other_subjects_and_objects(self):
        rows = [("doc:b", "owner", "user:u"), ("doc:a", "owner", "user:v"), OWNER]
        found = [one[:4] for one in effects(SCHEMA, rows, SCHEMA, rows[:2])]
        self.assertEqual(found, [("doc:a", "owner", "user:u", "lost"), ("doc:a", "view", "user:u", "lost")])
        found = [one[:4] for one in effects(SCHEMA, rows[2:], SCHEMA, rows[:1])]
        self.assertEqual(found, [
            ("doc:a", "owner", "user:u", "lost"), ("doc:a", "view", "user:u", "lost"),
            ("doc:b", "owner", "user:u", "gained"), ("doc:b", "view", "user:u", "gained"),
        ])

    def test_a_schema_without_the_name(self):
        other = read_schema(TEXT + "\npermission edit = owner")
        held = (True, [("doc:a", "edit", 2), ("doc:a", "owner", 1)])
        wanted = ("doc:a", "edit", "user:u")
        self.assertEqual(effects(SCHEMA, [OWNER], other, [OWNER]), [(*wanted, "gained", None, held)])
        self.assertEqual(effects(other, [OWNER], SCHEMA, [OWNER]), [(*wanted, "lost", held, None)])

    def test_a_schema_without_the_type(self):
        users = read_schema("type user")
        found = effects(users, [], SCHEMA, [OWNER])
        self.assertEqual([one[:5] for one in found], [
            ("doc:a", "owner", "user:u", "gained", None), ("doc:a", "view", "user:u", "gained", None),
        ])
        self.assertEqual(found[0][5], (True, [("doc:a", "owner", 1)]))
        self.assertEqual([one[5] for one in effects(SCHEMA, [OWNER], users, [])], [None, None])

    def test_a_schema_without_the_type_of_the_subject(self):
        first = read_schema("type doc\nrelation r: doc")
        second = read_schema("type user\ntype doc\nrelation r: user")
        row = ("doc:a", "r", "user:u")
        self.assertEqual(effects(first, [], second, [row]), [(*row, "gained", None, (True, [("doc:a", "r", 1)]))])

    def test_the_same_relationships_by_another_permission(self):
        other = read_schema(TEXT.replace("- banned", "& banned"))
        found = effects(SCHEMA, [OWNER], other, [OWNER])
        yes = (True, [("doc:a", "banned", 0), ("doc:a", "owner", 1), ("doc:a", "view", 1)])
        no = (False, [("doc:a", "banned", 0), ("doc:a", "owner", 1), ("doc:a", "view", 0)])
        self.assertEqual(found, [("doc:a", "view", "user:u", "lost", yes, no)])

    def test_errors(self):
        bad = ("doc:a", "owner", "doc:b")
        self.assert_refused("relationship does not conform", 1, effects, SCHEMA, [OWNER, bad], SCHEMA, [bad])
        self.assert_refused("duplicate relationship", -1, effects, SCHEMA, [OWNER, OWNER], SCHEMA, [bad])
        self.assert_refused("relationship does not conform", 2, effects, SCHEMA, [OWNER], SCHEMA, [OWNER, BANNED, bad])
        self.assert_refused("duplicate relationship", -1, effects, SCHEMA, [OWNER], SCHEMA, [OWNER, BANNED, OWNER])
        users = read_schema("type user")
        self.assert_refused("relationship does not conform", 0, effects, SCHEMA, [OWNER], users, [OWNER])
        self.assert_refused("relationship does not conform", 0, effects, users, [OWNER], SCHEMA, [OWNER])

    def has_question(self, schema, question):
        target, name, subject = question
        names = {kind: [entry[0] for entry in entries] for kind, entries in schema}
        kind, other = target.split(":")[0], subject.split(":")[0]
        return kind in names and other in names and name in names[kind]

    def certificate(self, schema, rows, question):
        return certify(schema, rows, *question) if self.has_question(schema, question) else None

    def test_any_schemas_and_relationships(self):
        rng = random.Random(45)
        for _ in range(60):
            schemas = [random_schema(rng) for _ in range(2)]
            if rng.random() < 0.3:
                schemas[1] = schemas[0]
            sides = [(schema, random_relationships(rng, schema, 8)) for schema in schemas]
            given = copy.deepcopy(sides)
            found = effects(*given[0], *given[1])
            self.assertEqual(given, sides)
            tables = [Model(*side).ranks for side in sides]
            self.assertEqual([one[:3] for one in found], sorted(set(tables[0]) ^ set(tables[1])))
            for target, name, subject, effect, before, after in found:
                question = (target, name, subject)
                self.assertEqual(effect, "gained" if question in tables[1] else "lost")
                self.assertEqual([before, after], [self.certificate(*side, question) for side in sides])
                shown, side = (after, sides[1]) if effect == "gained" else (before, sides[0])
                self.assertTrue(verify(*side, *question, shown))
