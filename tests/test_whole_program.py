"""Points 1 to 4 over the whole program: the one table, arguments and results, and what an error leaves."""

import copy
import random
import unittest

from model import Model, random_schema, random_updates

from authsync import audits, caches, certificates, changes, comparing, contents, demands, expansion, expectations, journal
from authsync import links, listing, names, netting, notation, primary, replica, restoring, schema, succession, tables
from authsync import watching, whatif, why
from authsync.errors import AuthError, Refused

CLIENTS = ["c", "d", "e"]


def dump(value):
    """All that an object holds, in a form that stays what it was and can be compared."""
    if isinstance(value, dict):
        return [(dump(key), dump(part)) for key, part in value.items()]
    if isinstance(value, (list, tuple)):
        return [dump(part) for part in value]
    return dump(vars(value)) if hasattr(value, "__dict__") else value


def spoil(value):
    """Empty all lists and dicts that can be reached from a value without entering objects."""
    if isinstance(value, (list, tuple, dict)):
        for part in list(value.values() if isinstance(value, dict) else value):
            spoil(part)
    if isinstance(value, (list, dict)):
        value.clear()


class World:
    """A row of primaries, and all that follows them; what is expected is kept apart from the program."""

    def __init__(self, test, rng):
        self.test = test
        self.rng = rng
        self.schema = random_schema(rng)
        self.rows = set()
        self.row = succession.Succession(primary.Primary("s0", schema.schema_text(self.schema)))
        self.primaries = {}
        self.tables = {}
        self.kept = {}
        self.snapshots = {}
        self.entries = {}
        self.readers = []
        self.caches = []
        self.watches = []
        self.journals = {}
        self.contents = {}
        self.demand = demands.Demand()
        self.counts = {}
        self.begin_store()

    def present(self):
        return self.row.primary()

    def count(self, what):
        self.counts[what] = self.counts.get(what, 0) + 1

    def note(self):
        """Note what the present revision has to be."""
        present = self.present()
        table = set(Model(self.schema, sorted(self.rows)).ranks)
        self.tables[present.token()] = table
        self.kept[present.token()] = (self.schema, set(self.rows))
        self.test.assertEqual(present.relationships(""), sorted(self.rows))
        self.test.assertEqual(present.grants(""), sorted(table))

    def begin_store(self):
        present = self.present()
        store = present.store_id()
        self.primaries[store] = present
        self.entries[store] = []
        self.journals[store] = journal.Journal()
        self.contents[store] = contents.ContentStore(present)
        self.note()
        self.snapshots[store] = present.snapshot("")
        for kind in (replica.Replica, links.Follower):
            self.readers.append(kind(present.snapshot("")))

    def go_on(self):
        """Take up a further revision of the present primary."""
        self.note()
        self.entries[self.present().store_id()].append(self.present().entry(self.present().revision()))

    def write(self):
        updates = random_updates(self.rng, self.schema, self.rows)
        self.present().write(updates)
        self.rows -= {update[1:] for update in updates if update[0] == "delete"}
        self.rows |= {update[1:] for update in updates if update[0] != "delete"}
        self.go_on()
        self.count("written")

    def migrate(self):
        found = expectations.mutants(self.schema)
        changed = expectations.mutated(self.schema, self.rng.choice(found)) if found else None
        changed = changed or random_schema(self.rng)
        text = schema.schema_text(changed)
        if all(tables.conforms(changed, row) for row in self.rows):
            self.present().migrate(text)
            self.schema = changed
            self.go_on()
            self.count("migrated")
        else:
            self.refused(self.present().migrate, text)

    def restore(self):
        present = self.present()
        revision = self.rng.randint(0, present.revision())
        at = f"{present.store_id()}@{revision}"
        if revision < present.oldest() or self.kept[at][0] != self.schema:
            self.refused(restoring.restore, present, at)
            return
        before = present.revision()
        tokens = restoring.restore(present, at)
        self.test.assertEqual(tokens, [f"{present.store_id()}@{one}" for one in range(before + 1, present.revision() + 1)])
        for token in tokens:
            self.rows = set(present.relationships(token))
            self.tables[token] = set(Model(self.schema, sorted(self.rows)).ranks)
            self.kept[token] = (self.schema, set(self.rows))
            self.entries[present.store_id()].append(present.entry(names.split_token(token)[1]))
        self.test.assertEqual(self.rows, self.kept[at][1])
        self.note()
        self.count("restored")

    def compact(self):
        present = self.present()
        present.compact(self.rng.randint(present.oldest(), present.revision()))
        self.count("compacted")

    def hand_over(self):
        before = self.present()
        self.test.assertEqual(self.row.hand_over(f"s{len(self.primaries)}"), f"s{len(self.primaries)}@0")
        self.test.assertEqual(self.present().grants(""), before.grants(""))
        self.begin_store()
        self.count("handed over")

    def question(self):
        granted = sorted(self.rng.choice(list(self.tables.values())))
        if granted and self.rng.random() < 0.8:
            return self.rng.choice(granted)
        kind, name = self.rng.choice([(kind, entry[0]) for kind, entries in self.schema for entry in entries])
        return (f"{kind}:{self.rng.choice('abc')}", name, f"user:{self.rng.choice('abc')}")

    def answered(self, answer, question, demanded=""):
        """Hold an answer against the table at the revision of its token, and this against what was demanded."""
        allowed, token = answer
        self.test.assertIs(allowed, question in self.tables[token])
        if demanded:
            store, revision = names.split_token(demanded)
            self.test.assertEqual(names.split_token(token)[0], store)
            self.test.assertGreaterEqual(names.split_token(token)[1], revision)
        self.demand.note(token)
        self.count("allowed" if allowed else "not allowed")

    def refused(self, call, *values):
        """Assert that a call raises an error and changes neither its object nor what it is passed."""
        concerned = [getattr(call, "__self__", None), values]
        before = dump(concerned)
        self.test.assertRaises(AuthError, call, *values)
        self.test.assertEqual(dump(concerned), before)
        self.count("refused")

    def ask_primary(self):
        store = self.rng.choice(list(self.primaries))
        asked = self.primaries[store]
        question = self.question()
        at = self.rng.choice(["", f"{store}@{self.rng.randint(0, asked.revision())}", f"{store}@41", "other@0"])
        token = at or asked.token()
        if token not in self.tables or names.split_token(token)[1] < asked.oldest():
            self.refused(asked.check, *question, at)
            return
        known = self.kept[token][0]
        kinds = {kind: [entry[0] for entry in entries] for kind, entries in known}
        if question[1] in kinds.get(names.type_of(question[0]), []) and names.type_of(question[2]) in kinds:
            answer = asked.check(*question, at)
            self.test.assertEqual(answer[1], token)
            self.answered(answer, question, at)
        else:
            self.refused(asked.check, *question, at)

    def feed_reader(self):
        reader = self.rng.choice(self.readers)
        store = reader.store_id()
        entries = self.entries[store]
        if isinstance(reader, replica.Replica):
            for entry in self.rng.sample(entries, min(3, len(entries))):
                reader.receive(copy.deepcopy(entry))
            self.test.assertEqual(set(reader.snapshot()[2]), self.tables[f"{store}@{reader.revision()}"])
            return
        before = reader.revision()
        chosen = self.rng.randrange(3)
        if chosen == 0:
            text = links.answer_to(self.primaries[store], reader.ask())
        elif chosen == 1:
            text = notation.write_feed(self.rng.sample(entries, min(3, len(entries))))
        else:
            token = self.rng.choice([token for token in self.tables if names.split_token(token)[0] == store])
            text = notation.write_snapshot((store, names.split_token(token)[1], sorted(self.tables[token])))
        self.test.assertEqual(reader.take(text), reader.revision() - before)

    def ask_reader(self):
        reader = self.rng.choice(self.readers)
        store = reader.store_id()
        question = self.question()
        at_least = self.rng.choice(["", f"{store}@{self.rng.randint(0, 12)}", self.demand.token_for(store), "other@0"])
        store_asked, revision = names.split_token(at_least) if at_least else (store, 0)
        if store_asked != store or revision > reader.revision():
            self.refused(reader.check, *question, at_least)
        else:
            self.answered(reader.check(*question, at_least), question, at_least)
        if self.demand.is_met(store, reader.revision()):
            newest = self.demand.token_for(store)
            self.answered(reader.check(*question, newest), question, newest)

    def use_cache(self):
        reader = self.rng.choice(self.readers)
        if len(self.caches) < 3 or self.rng.random() < 0.1:
            store = self.rng.choice(list(self.primaries))
            first = self.rng.randint(0, len(self.entries[store]))
            self.caches.append(caches.Cache(store, first, self.rng.randint(1, 6)))
        cache = self.rng.choice(self.caches)
        entries = self.entries[cache.store_id()]
        if self.rng.random() < 0.4 and cache.revision() < len(entries):
            cache.apply(copy.deepcopy(entries[cache.revision()]))
        question = self.question()
        at_least = self.rng.choice(["", f"{cache.store_id()}@{self.rng.randint(0, cache.revision())}"])
        found = cache.lookup(*question, at_least)
        if found is not None:
            self.answered(found, question, at_least)
        if reader.store_id() != cache.store_id():
            self.refused(cache.check, reader, *question, at_least)
        elif found is not None or not at_least or names.split_token(at_least)[1] <= reader.revision():
            self.answered(cache.check(reader, *question, at_least), question, at_least)

    def use_watch(self):
        store = self.rng.choice(list(self.primaries))
        question = self.question()
        if self.rng.random() < 0.3:
            known = [token for token in self.tables if names.split_token(token)[0] == store]
            token = self.rng.choice(known)
            snapshot = (store, names.split_token(token)[1], sorted(self.tables[token]))
            self.watches.append((watching.Watch(snapshot, *question[1:]), question[1:]))
        for watch, wanted in self.watches:
            entries = self.entries[names.split_token(watch.token())[0]]
            if watch.revision() < len(entries) and self.rng.random() < 0.5:
                watch.advance(copy.deepcopy(entries[watch.revision()]))
            held = sorted(grant[0] for grant in self.tables[watch.token()] if grant[1:] == wanted)
            self.test.assertEqual(watch.objects(), held)
            self.refused(watch.advance, ("other", watch.revision() + 1, [], []))

    def use_journal(self):
        reader = self.rng.choice(self.readers)
        kept = self.journals[reader.store_id()]
        client = self.rng.choice(CLIENTS)
        question = self.question()
        demanded = kept.token_of(client)
        if demanded and names.split_token(demanded)[1] > reader.revision():
            self.refused(kept.ask, client, reader, *question)
        else:
            self.answered(kept.ask(client, reader, *question), question, demanded)
        if self.rng.random() < 0.05:
            kept.forget(client)

    def use_contents(self):
        store = self.rng.choice(list(self.primaries))
        kept = self.contents[store]
        question = self.question()
        if self.rng.random() < 0.3:
            try:
                kept.put(question[0], self.primaries[store].token())
            except Refused:
                self.count("full")
        readers = [reader for reader in self.readers if reader.store_id() == store]
        reader = self.rng.choice(readers)
        newest = kept.token(question[0])
        if not newest or names.split_token(newest)[1] > reader.revision():
            self.refused(kept.read, reader, *question)
            return
        shown = kept.read(reader, *question)
        if shown is None:
            self.test.assertNotIn(question, self.tables[f"{store}@{reader.revision()}"])
        else:
            self.test.assertEqual(shown[0], newest)
            self.answered((True, shown[2]), question, newest)
            self.count("shown")

    def list_items(self):
        present = self.present()
        target, name, subject = self.question()
        question = self.rng.choice([
            ("objects", names.type_of(target), name, subject), ("subjects", target, name, names.type_of(subject)),
        ])
        items, cursor = listing.first_page(present, question, 1)
        while cursor:
            further, cursor = listing.next_page(present, cursor, 2)
            items += further
        table = sorted(self.tables[present.token()])
        if question[0] == "objects":
            kinds = [grant[0] for grant in table if grant[1:] == (name, subject)]
            wanted = [one for one in kinds if names.type_of(one) == names.type_of(target)]
        else:
            kinds = [grant[2] for grant in table if grant[:2] == (target, name)]
            wanted = [one for one in kinds if names.type_of(one) == names.type_of(subject)]
        self.test.assertEqual(items, wanted)

    def look_back(self):
        """Hold what entries tell together against the tables, and what old tokens demand."""
        for store, entries in self.entries.items():
            if entries:
                first = self.rng.randint(0, len(entries) - 1)
                last = self.rng.randint(first, len(entries))
                before, after = [sorted(self.tables[f"{store}@{revision}"]) for revision in (first, last)]
                self.test.assertEqual(netting.net_change(entries[first:last]), changes.difference(before, after))
        for token in self.rng.sample(list(self.tables), min(5, len(self.tables))):
            revision = self.row.demanded(token)
            self.test.assertIn(f"{self.present().store_id()}@{revision}", self.tables)

    def break_something(self):
        """Make calls that are not carried out."""
        present = self.present()
        reader = self.readers[0]
        gone = ("delete", "user:none", "r0", "user:none")
        question = self.question()
        for call, *values in (
            (present.write, [gone]), (present.preview, [gone]), (present.migrate, "no"), (present.entry, 0),
            (present.changes, 1, 0), (present.compact, present.revision() + 1), (present.snapshot, "no"),
            (self.row.hand_over, "s0"), (self.row.demanded, "other@0"), (restoring.restore, present, "other@0"),
            (listing.first_page, present, (), 5), (listing.next_page, present, "no", 5), (links.answer_to, present, "no"),
            (links.answer_to, present, "want other 0"), (self.contents["s0"].read, primary.Primary("other", ""), *question),
            (netting.flips, [("a", 1, [], []), ("b", 2, [], [])]), (reader.receive, ("other", 1, [], [])),
            (self.readers[1].take, "snapshot other 40"),
        ):
            self.refused(call, *values)

    def audit_all(self):
        for store, kept in self.journals.items():
            log = kept.log()
            explained, revisions = audits.audit(self.snapshots[store], self.entries[store], log)
            self.test.assertTrue(explained)
            for (_, target, name, subject, allowed, _, _), revision in zip(log, revisions):
                self.test.assertIs(allowed, (target, name, subject) in self.tables[f"{store}@{revision}"])


class OneTableTest(unittest.TestCase):
    def test_everything_in_any_order(self):
        counts = {}
        for seed in range(16):
            rng = random.Random(seed)
            world = World(self, rng)
            moves = [world.write] * 4 + [world.migrate, world.restore, world.compact, world.hand_over]
            uses = [world.ask_primary, world.feed_reader, world.ask_reader, world.use_cache, world.use_watch,
                    world.use_journal, world.use_contents, world.list_items]
            for _ in range(30):
                if world.present().revision() < 30:
                    rng.choice(moves)()
                for _ in range(10):
                    rng.choice(uses)()
                world.look_back()
            world.break_something()
            world.audit_all()
            for what, number in world.counts.items():
                counts[what] = counts.get(what, 0) + number
        for what in ("written", "migrated", "restored", "compacted", "handed over", "allowed", "not allowed", "refused", "shown"):
            self.assertGreater(counts.get(what, 0), 20, what)


TEXT = """type user
type group
relation member: user, group#member
type doc
relation parent: doc
relation owner: user, group#member
relation banned: user
permission edit = owner | parent.edit
permission view = edit - banned"""
ROWS = [("doc:b", "parent", "doc:a"), ("doc:a", "owner", "group:g#member"), ("group:g", "member", "user:u"),
        ("doc:b", "banned", "user:v"), ("doc:a", "owner", "user:v")]
QUESTION = ("doc:b", "view", "user:u")
UPDATES = [("delete", "doc:a", "owner", "user:v"), ("create", "doc:c", "owner", "user:u")]


def followed():
    """A primary with three revisions."""
    made = primary.Primary("main", TEXT, ROWS)
    made.write(UPDATES)
    made.write([("create", "doc:b", "banned", "user:u")])
    return made


class ArgumentsTest(unittest.TestCase):
    def calls(self):
        """Calls of the functions that are passed or return lists or dicts, each with its arguments."""
        read = schema.read_schema(TEXT)
        made = followed()
        other = schema.read_schema(TEXT.replace("edit - banned", "edit"))
        table = tables.evaluate(read, ROWS)
        certificate = certificates.certify(read, ROWS, *QUESTION)
        entries = [made.entry(1), made.entry(2)]
        snapshot = made.snapshot("main@0")
        log = [("c", *QUESTION, True, 0, 1), ("c", *QUESTION, False, 1, 2)]
        wanted = [(True, *QUESTION), (True, "doc:b", "edit", "user:x")]
        atoms = [("", "owner"), ("parent", "edit")]
        return [
            (schema.strata, read), (schema.names_of, read, "doc"), (tables.check_relationships, read, ROWS),
            (tables.evaluate, read, ROWS), (tables.ranked, read, ROWS), (certificates.certify, read, ROWS, *QUESTION),
            (certificates.verify, read, ROWS, *QUESTION, certificate), (changes.difference, table, table[2:]),
            (changes.applies, table, ([], table[:2])), (changes.apply_change, table, ([], table[:2])),
            (changes.compose, ([], table[:2]), (table[:1], table[2:])), (made.preview, [("delete", *ROWS[0])]),
            (made.relationships, ""), (made.grants, ""), (made.snapshot, ""), (made.entry, 1), (made.changes, 0, 2),
            (audits.audit, snapshot, entries, log), (journal.write_log, log), (journal.read_log, journal.write_log(log)),
            (notation.write_snapshot, snapshot), (notation.write_feed, entries),
            (notation.read_feed, notation.write_feed(entries)), (notation.read_snapshot, notation.write_snapshot(snapshot)),
            (links.read_request, "want main 0 without 2,3"), (why.revoking, read, ROWS, *QUESTION),
            (why.giving, read, ROWS[:1], ROWS[1:], *QUESTION), (whatif.effects, read, ROWS, other, ROWS[1:]),
            (expectations.read_expectations, "allow doc:a view user:u"), (expectations.failures, read, ROWS, wanted),
            (expectations.mutants, read), (expectations.untold, read, ROWS, wanted),
            (listing.first_page, made, ("objects", "doc", "edit", "user:u"), 2),
            (listing.next_page, made, "main@0 objects doc edit user:u doc:a", 2), (expansion.who, read, ROWS, "doc:b", "view"),
            (expansion.expand, read, ROWS, "doc:b", "view"), (comparing.atoms_of, read, "doc", "view"),
            (comparing.is_held, read, "doc", "view", atoms), (comparing.apart, read, "doc", "edit", "view"),
            (comparing.example, read, "doc", "edit", "view", "user"), (comparing.classes_of, read, "doc"),
            (restoring.updates_between, sorted(ROWS), sorted(ROWS[1:])), (netting.net_change, entries),
            (netting.news_for, entries, "user:u"), (netting.flips, entries), (netting.digest, entries),
        ]

    def test_arguments_stay_and_results_are_new(self):
        for call, *values in self.calls():
            before = dump(values)
            found = call(*values)
            wanted = copy.deepcopy(found)
            self.assertEqual(dump(values), before, call)
            spoil(found)
            self.assertEqual(dump(values), before, call)
            self.assertEqual(call(*values), wanted, call)

    def objects(self):
        """Objects that were passed lists, with the lists and with what they tell."""
        made = followed()
        rows, updates = list(ROWS), list(UPDATES)
        first = primary.Primary("main", TEXT, rows)
        first.write(updates)
        snapshot, entry, late = made.snapshot("main@0"), made.entry(1), made.entry(2)
        second = replica.Replica(snapshot)
        second.receive(late)
        third = replica.Replica(made.snapshot("main@0"))
        third.receive(entry)
        watch = watching.Watch(snapshot, "view", "user:u")
        watch.advance(entry)
        cache = caches.Cache("main", 0, 5)
        cache.store(*QUESTION, (True, "main@0"))
        cache.apply(entry)
        notes = journal.Journal()
        notes.ask("c", third, *QUESTION)
        demand = demands.Demand()
        demand.note("main@1")
        row = succession.Succession(first)
        follower = links.Follower(snapshot)
        told = [
            (first, lambda: [first.relationships(""), first.grants(""), first.snapshot("main@0"), first.entry(1)]),
            (second, lambda: [second.waiting(), second.waiting_entries(), second.snapshot()]),
            (third, lambda: [third.waiting(), third.waiting_entries(), third.snapshot()]),
            (watch, lambda: [watch.objects()]), (cache, lambda: [cache.questions()]), (notes, lambda: [notes.log()]),
            (demand, lambda: [demand.tokens()]), (row, lambda: [row.ids()]), (follower, lambda: [follower.ask()]),
        ]
        return [rows, updates, snapshot, entry, late], told

    def test_later_changes_have_no_effect_on_any_object(self):
        passed, told = self.objects()
        before = dump([one for one, _ in told])
        spoil(passed)
        self.assertEqual(dump([one for one, _ in told]), before)
        for one, tell in told:
            found = tell()
            wanted = copy.deepcopy(found)
            spoil(found)
            self.assertEqual(tell(), wanted, one)
        self.assertEqual(dump([one for one, _ in told]), before)

    def test_texts_hold_printable_characters_only(self):
        made = followed()
        entries = [made.entry(1), made.entry(2)]
        for text in (made.schema_text(""), notation.write_feed(entries), notation.write_snapshot(made.snapshot(""))):
            self.assertTrue(all(sign == "\n" or " " <= sign <= "~" for sign in text))
            self.assertFalse(text.endswith("\n"))
