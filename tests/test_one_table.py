"""Point 2: every answer is by the table at the revision that its token names, and not older than demanded."""

import random
import unittest

from model import random_schema, random_updates

from authsync.caches import Cache
from authsync.contents import ContentStore
from authsync.errors import Refused
from authsync.links import Follower, answer_to
from authsync.names import split_token
from authsync.notation import write_feed, write_snapshot
from authsync.primary import Primary
from authsync.replica import Replica
from authsync.schema import schema_text
from authsync.succession import Succession
from authsync.tables import evaluate
from authsync.watching import Watch


def history(rng):
    """A primary, and the tables of its revisions by the rules of tables alone."""
    schema = random_schema(rng)
    primary = Primary("main", schema_text(schema))
    present = set()
    tables = [[]]
    for _ in range(12):
        updates = random_updates(rng, schema, present)
        primary.write(updates)
        present -= {update[1:] for update in updates if update[0] == "delete"}
        present |= {update[1:] for update in updates if update[0] != "delete"}
        tables.append(evaluate(schema, sorted(present)))
    return schema, primary, tables


class OneTableTest(unittest.TestCase):
    def questions(self, rng, schema, tables):
        granted = sorted({grant for table in tables for grant in table})
        others = [("user:z", entry[0], "user:a") for kind, entries in schema for entry in entries if kind == "user"]
        return rng.sample(granted, min(12, len(granted))) + others

    def test_primaries(self):
        rng = random.Random(2)
        for _ in range(30):
            schema, primary, tables = history(rng)
            for question in self.questions(rng, schema, tables):
                for revision, table in enumerate(tables):
                    at = f"main@{revision}"
                    self.assertEqual(primary.check(*question, at), (question in table, at))
                self.assertEqual(primary.check(*question, ""), (question in tables[-1], primary.token()))

    def test_replicas_that_receive_in_any_order(self):
        rng = random.Random(26)
        for _ in range(30):
            schema, primary, tables = history(rng)
            first = rng.randint(0, 3)
            replica = Replica(primary.snapshot(f"main@{first}"))
            entries = [primary.entry(revision) for revision in range(1, 13)] * 2
            rng.shuffle(entries)
            for entry in entries:
                before = replica.revision()
                self.assertEqual(replica.receive(entry), replica.revision() - before)
                self.assertEqual(replica.snapshot(), primary.snapshot(f"main@{replica.revision()}"))
                self.check_answers(rng, replica, self.questions(rng, schema, tables), tables)
            self.assertEqual((replica.revision(), replica.waiting()), (12, []))

    def assert_answer(self, answer, question, tables, demanded):
        """Assert that an answer is by the table of the revision of its token, and not older than demanded."""
        allowed, token = answer
        store, revision = split_token(token)
        self.assertEqual((store, allowed), ("main", question in tables[revision]))
        self.assertGreaterEqual(revision, demanded)

    def check_answers(self, rng, reader, questions, tables):
        for question in questions:
            demanded = rng.randint(0, 12)
            try:
                answer = reader.check(*question, f"main@{demanded}")
            except Refused as refused:
                self.assertEqual(refused.what, "replica is behind")
                self.assertGreater(demanded, reader.revision())
                continue
            self.assert_answer(answer, question, tables, demanded)

    def any_text(self, rng, primary, follower):
        """A text that can reach a follower: an answer to its request, old entries, or an old snapshot."""
        chosen = rng.randrange(3)
        if chosen == 0:
            return answer_to(primary, follower.ask())
        if chosen == 1:
            return write_snapshot(primary.snapshot(f"main@{rng.randint(0, 12)}"))
        return write_feed([primary.entry(rng.randint(1, 12)) for _ in range(rng.randint(0, 3))])

    def test_followers(self):
        rng = random.Random(42)
        for _ in range(30):
            schema, primary, tables = history(rng)
            follower = Follower(primary.snapshot("main@0"))
            questions = self.questions(rng, schema, tables)
            texts = [self.any_text(rng, primary, follower) for _ in range(4)]
            while follower.revision() < 12:
                text = rng.choice(texts + [self.any_text(rng, primary, follower)])
                before = follower.revision()
                self.assertEqual(follower.take(text), follower.revision() - before)
                self.check_answers(rng, follower, questions, tables)

    def test_caches(self):
        rng = random.Random(31)
        for _ in range(30):
            schema, primary, tables = history(rng)
            cache = Cache("main", rng.randint(0, 3), rng.randint(1, 8))
            replicas = [Replica(primary.snapshot(f"main@{rng.randint(0, 12)}")) for _ in range(3)]
            questions = self.questions(rng, schema, tables)
            while cache.revision() < 12:
                cache.apply(primary.entry(cache.revision() + 1))
                for question in questions:
                    self.check_cache(rng, cache, rng.choice(replicas), question, tables)

    def check_cache(self, rng, cache, replica, question, tables):
        demanded = rng.randint(0, 12)
        found = cache.lookup(*question, f"main@{demanded}")
        if found is not None:
            self.assert_answer(found, question, tables, demanded)
        at_least = f"main@{demanded}"
        if found is None and replica.revision() < demanded:
            self.assertRaises(Refused, cache.check, replica, *question, at_least)
        else:
            self.assert_answer(cache.check(replica, *question, at_least), question, tables, demanded)

    def test_content_stores(self):
        rng = random.Random(33)
        for _ in range(30):
            schema, _, _ = history(rng)
            primary = Primary("main", schema_text(schema))
            contents = ContentStore(primary)
            snapshots, tables, present = [primary.snapshot("")], [[]], set()
            for _ in range(12):
                updates = random_updates(rng, schema, present)
                primary.write(updates)
                present = set(primary.relationships(""))
                snapshots.append(primary.snapshot(""))
                tables.append(evaluate(schema, sorted(present)))
                contents.put(f"doc:{rng.choice('ab')}", primary.token())
                for question in self.questions(rng, schema, tables):
                    self.check_content(contents, primary, question, tables)
                    self.check_content(contents, Replica(rng.choice(snapshots)), question, tables)
                    self.check_content(contents, Follower(rng.choice(snapshots)), question, tables)

    def check_content(self, contents, reader, question, tables):
        version, token = contents.version(question[0]), contents.token(question[0])
        if not version or reader.revision() < split_token(token)[1]:
            self.assertRaises(Refused, contents.read, reader, *question)
            return
        shown = contents.read(reader, *question)
        if shown is None:
            self.assertNotIn(question, tables[reader.revision()])
        else:
            self.assertEqual(shown[:2], (token, version))
            self.assert_answer((True, shown[2]), question, tables, split_token(token)[1])

    def test_watches(self):
        rng = random.Random(50)
        for _ in range(30):
            schema, primary, tables = history(rng)
            for _, name, subject in self.questions(rng, schema, tables):
                watch = Watch(primary.snapshot(f"main@{rng.randint(0, 3)}"), name, subject)
                while watch.revision() < 12:
                    watch.advance(primary.entry(watch.revision() + 1))
                    table = tables[split_token(watch.token())[1]]
                    self.assertEqual(watch.objects(), [one[0] for one in table if one[1:] == (name, subject)])

    def test_successions(self):
        rng = random.Random(51)
        for _ in range(30):
            schema = random_schema(rng)
            row = Succession(Primary("s0", schema_text(schema)))
            tables = {"s0@0": []}
            for number in range(1, 15):
                primary = row.primary()
                if rng.random() < 0.3:
                    token = row.hand_over(f"s{number}")
                else:
                    token = primary.write(random_updates(rng, schema, set(primary.relationships(""))))
                tables[token] = evaluate(schema, row.primary().relationships(""))
                self.check_row(rng, row, tables)

    def check_row(self, rng, row, tables):
        """Assert that what tokens demand is not older than they are, and answered by its table."""
        order = list(tables)
        for token in order:
            demanded = f"{row.primary().store_id()}@{row.demanded(token)}"
            self.assertGreaterEqual(order.index(demanded), order.index(token))
            asked = [*tables[demanded], *rng.choice(list(tables.values()))]
            for question in rng.sample(asked, min(4, len(asked))):
                self.assertEqual(row.primary().check(*question, demanded), (question in tables[demanded], demanded))
