"""Point 2: every answer is by the table at the revision that its token names, and not older than demanded."""

import random
import unittest

from model import random_relationship, random_schema

from authsync.errors import Refused
from authsync.names import split_token
from authsync.primary import Primary
from authsync.replica import Replica
from authsync.schema import schema_text
from authsync.tables import evaluate


def random_updates(rng, schema, present):
    chosen = {random_relationship(rng, schema) for _ in range(rng.randint(1, 5))}
    chosen |= set(rng.sample(sorted(present), min(2, len(present))))
    return [("delete" if row in present else rng.choice(["create", "touch"]), *row) for row in sorted(chosen)]


def history(rng):
    """A primary, and the tables of its revisions by the rules of tables alone."""
    schema = random_schema(rng)
    primary = Primary("main", schema_text(schema))
    present = set()
    tables = [[]]
    for _ in range(12):
        updates = random_updates(rng, schema, present)
        primary.write(updates)
        present -= {update[1:] for update in updates if update[0] == "delete"}
        present |= {update[1:] for update in updates if update[0] != "delete"}
        tables.append(evaluate(schema, sorted(present)))
    return schema, primary, tables


class OneTableTest(unittest.TestCase):
    def questions(self, rng, schema, tables):
        granted = sorted({grant for table in tables for grant in table})
        others = [("user:z", entry[0], "user:a") for kind, entries in schema for entry in entries if kind == "user"]
        return rng.sample(granted, min(12, len(granted))) + others

    def test_primaries(self):
        rng = random.Random(2)
        for _ in range(30):
            schema, primary, tables = history(rng)
            for question in self.questions(rng, schema, tables):
                for revision, table in enumerate(tables):
                    at = f"main@{revision}"
                    self.assertEqual(primary.check(*question, at), (question in table, at))
                self.assertEqual(primary.check(*question, ""), (question in tables[-1], primary.token()))

    def test_replicas_that_receive_in_any_order(self):
        rng = random.Random(26)
        for _ in range(30):
            schema, primary, tables = history(rng)
            first = rng.randint(0, 3)
            replica = Replica(primary.snapshot(f"main@{first}"))
            entries = [primary.entry(revision) for revision in range(1, 13)] * 2
            rng.shuffle(entries)
            for entry in entries:
                before = replica.revision()
                self.assertEqual(replica.receive(entry), replica.revision() - before)
                self.assertEqual(replica.snapshot(), primary.snapshot(f"main@{replica.revision()}"))
                self.check_answers(rng, replica, self.questions(rng, schema, tables), tables)
            self.assertEqual((replica.revision(), replica.waiting()), (12, []))

    def check_answers(self, rng, replica, questions, tables):
        for question in questions:
            demanded = rng.randint(0, 12)
            try:
                allowed, token = replica.check(*question, f"main@{demanded}")
            except Refused as refused:
                self.assertEqual(refused.what, "replica is behind")
                self.assertGreater(demanded, replica.revision())
                continue
            store, revision = split_token(token)
            self.assertEqual((store, allowed), ("main", question in tables[revision]))
            self.assertGreaterEqual(revision, demanded)
