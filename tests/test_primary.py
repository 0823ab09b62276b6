"""Points 20 to 24: primaries."""

import copy
import unittest

from raising import RaisingTest

from authsync.changes import difference
from authsync.primary import Primary
from authsync.schema import read_schema, schema_text
from authsync.tables import evaluate

TEXT = """type user
type group
relation member: user, group#member
type doc
relation owner: user, group#member
relation banned: user
permission view = owner - banned"""
OTHER = "type user\ntype doc\nrelation owner: user\npermission see = owner"
A = ("doc:a", "owner", "user:u")
B = ("doc:b", "owner", "user:u")
BAN = ("doc:a", "banned", "user:u")


def rows(number, first=0):
    return [(f"doc:{index:02}", "owner", "user:u") for index in range(first, first + number)]


def updates(kind, relationships):
    return [(kind, *row) for row in relationships]


def state(primary):
    """All that can be seen of a primary, copied, so that it stays what it was."""
    revisions = range(primary.oldest(), primary.revision() + 1)
    tokens = [f"{primary.store_id()}@{revision}" for revision in revisions]
    kept = [(primary.relationships(at), primary.schema_text(at), primary.snapshot(at)) for at in tokens]
    entries = [primary.entry(revision) for revision in revisions[1:]]
    return copy.deepcopy((primary.oldest(), primary.token(), kept, entries))


class PrimaryTest(RaisingTest):
    def assert_refused_unchanged(self, primary, what, index, call, *values):
        before = state(primary)
        self.assert_refused(what, index, call, *values)
        self.assertEqual(state(primary), before)


class MakingTest(PrimaryTest):
    def test_revision_0(self):
        primary = Primary("main", TEXT)
        self.assertEqual((primary.store_id(), primary.revision(), primary.oldest()), ("main", 0, 0))
        self.assertEqual(primary.token(), "main@0")
        self.assertEqual((primary.relationships(""), primary.grants("")), ([], []))
        self.assertEqual(primary.schema_text(""), schema_text(read_schema(TEXT)))
        primary = Primary("main", TEXT, [B, A])
        self.assertEqual((primary.revision(), primary.relationships("")), (0, [A, B]))
        self.assertEqual(primary.grants(""), evaluate(read_schema(TEXT), [A, B]))
        self.assertEqual(primary.snapshot(""), ("main", 0, primary.grants("")))

    def test_errors(self):
        bad = ("doc:a", "view", "user:u")
        self.assert_bad_schema(2, "syntax error", Primary, "main", "type u\n?", [bad])
        self.assert_bad_schema(0, "recursion through exclusion", Primary, "main", "type u\npermission p = p - p")
        self.assert_refused("relationship does not conform", 2, Primary, "main", TEXT, [A, A, bad, bad])
        self.assert_refused("duplicate relationship", -1, Primary, "main", TEXT, [A, B, A])

    def test_no_error_limits_the_relationships_of_revision_0(self):
        self.assertEqual(len(Primary("main", TEXT, rows(41)).relationships("")), 41)

    def test_a_text_without_types(self):
        self.assertEqual(Primary("main", "").schema_text(""), "")


class WritingTest(PrimaryTest):
    def test_each_kind_of_update(self):
        primary = Primary("main", TEXT, [A])
        self.assertEqual(primary.write([("create", *B)]), "main@1")
        self.assertEqual(primary.relationships(""), [A, B])
        self.assertEqual(primary.write([("delete", *A)]), "main@2")
        self.assertEqual(primary.relationships(""), [B])
        self.assertEqual(primary.write([("touch", *A), ("touch", *B)]), "main@3")
        self.assertEqual(primary.relationships(""), [A, B])
        self.assertEqual((primary.revision(), primary.token(), primary.oldest()), (3, "main@3", 0))

    def test_several_updates_make_one_revision(self):
        primary = Primary("main", TEXT, [A])
        token = primary.write([("touch", *B), ("create", *BAN), ("delete", *A), *updates("create", rows(7))])
        self.assertEqual(token, "main@1")
        self.assertEqual(primary.relationships(""), sorted([B, BAN, *rows(7)]))
        self.assertEqual(primary.schema_text(""), primary.schema_text("main@0"))

    def test_the_feed_has_the_exact_change(self):
        primary = Primary("main", TEXT, [A])
        primary.write([("create", *BAN), ("create", *B)])
        gained = [("doc:a", "banned", "user:u"), ("doc:b", "owner", "user:u"), ("doc:b", "view", "user:u")]
        self.assertEqual(primary.entry(1), ("main", 1, gained, [("doc:a", "view", "user:u")]))
        primary.write([("touch", *B)])
        self.assertEqual(primary.entry(2), ("main", 2, [], []))

    def test_the_first_update_of_which_something_is_wrong(self):
        bad = ("doc:a", "view", "user:u")
        for what, index, wrong in (
            ("update does not conform", 0, [("create", *bad)]),
            ("update does not conform", 0, [("delete", *bad)]),
            ("update does not conform", 1, [("touch", *B), ("touch", *bad), ("create", *A)]),
            ("update does not conform", 1, [("touch", *B), ("touch", "file:f", "x", "file:f")]),
            ("update is a duplicate", 1, [("create", *B), ("delete", *B)]),
            ("update is a duplicate", 2, [("touch", *A), ("touch", *B), ("create", *A), ("create", *bad)]),
            ("update is a duplicate", 1, [("delete", *A), ("create", *A)]),
            ("update already exists", 0, [("create", *A), ("create", *A)]),
            ("update already exists", 1, [("create", *B), ("create", *A), ("delete", *BAN)]),
            ("update does not exist", 0, [("delete", *B), ("create", *A)]),
            ("update does not exist", 2, [("create", *B), ("touch", *A), ("delete", *BAN)]),
        ):
            primary = Primary("main", TEXT, [A])
            self.assert_refused_unchanged(primary, what, index, primary.write, wrong)
            self.assert_refused_unchanged(primary, what, index, primary.preview, wrong)

    def test_at_most_40_relationships(self):
        primary = Primary("main", TEXT, rows(39))
        primary.write(updates("create", rows(1, 39)))
        self.assertEqual(len(primary.relationships("")), 40)
        more = updates("create", rows(1, 40))
        self.assert_refused_unchanged(primary, "too many relationships", -1, primary.write, more)
        self.assert_refused_unchanged(primary, "too many relationships", -1, primary.preview, more)
        self.assert_refused_unchanged(primary, "update already exists", 1, primary.write, [*more, ("create", *rows(1)[0])])
        primary.write([*more, *updates("delete", rows(1))])
        self.assertEqual(primary.relationships(""), rows(40, 1))
        primary.write(updates("touch", rows(1, 1)))
        self.assertEqual(primary.revision(), 3)

    def test_at_most_40_revisions(self):
        primary = Primary("main", TEXT)
        for revision in range(1, 41):
            self.assertEqual(primary.write([("touch", *A)]), f"main@{revision}")
        wrong = [("create", "file:f", "x", "file:f")]
        self.assert_refused_unchanged(primary, "too many revisions", -1, primary.write, wrong)
        self.assert_refused_unchanged(primary, "too many revisions", -1, primary.preview, wrong)
        primary.compact(40)
        self.assert_refused_unchanged(primary, "too many revisions", -1, primary.write, [("touch", *A)])

    def test_a_preview_is_what_is_made_then(self):
        primary = Primary("main", TEXT, [A])
        wanted = [("create", *BAN), ("create", *B)]
        before = state(primary)
        change = primary.preview(wanted)
        self.assertEqual(state(primary), before)
        primary.write(wanted)
        self.assertEqual(primary.entry(1), ("main", 1, *change))


class MigratingTest(PrimaryTest):
    def test_a_further_revision_has_the_other_schema(self):
        primary = Primary("main", TEXT, [A, B])
        change = primary.preview_migration(OTHER)
        self.assertEqual(primary.revision(), 0)
        self.assertEqual(primary.migrate(OTHER), "main@1")
        self.assertEqual(primary.relationships(""), [A, B])
        self.assertEqual(primary.schema_text(""), schema_text(read_schema(OTHER)))
        self.assertEqual(primary.schema_text("main@0"), schema_text(read_schema(TEXT)))
        self.assertEqual(primary.grants(""), evaluate(read_schema(OTHER), [A, B]))
        gained = [("doc:a", "see", "user:u"), ("doc:b", "see", "user:u")]
        lost = [("doc:a", "view", "user:u"), ("doc:b", "view", "user:u")]
        self.assertEqual(change, (gained, lost))
        self.assertEqual(primary.entry(1), ("main", 1, gained, lost))
        primary.write([("delete", *A)])
        self.assertEqual(primary.entry(2)[3], [A, ("doc:a", "see", "user:u")])

    def test_errors(self):
        group = ("group:g", "member", "user:u")
        primary = Primary("main", TEXT, [group, A, BAN, B])
        for call in (primary.migrate, primary.preview_migration):
            self.assert_refused_unchanged(primary, "relationship does not conform", 0, call, OTHER)
            self.assert_refused_unchanged(primary, "relationship does not conform", 0, call, "")
            text = TEXT.replace("relation member: user, group#member", "")
            self.assert_bad_schema(5, "unknown name", call, text)
            text = TEXT.replace("member: user, group#member", "member: group#member")
            self.assert_refused_unchanged(primary, "relationship does not conform", 3, call, text)
        self.assertEqual(primary.revision(), 0)

    def test_errors_of_the_text_come_before_too_many_revisions(self):
        primary = Primary("main", TEXT, [BAN])
        for _ in range(40):
            primary.migrate(TEXT)
        for call in (primary.migrate, primary.preview_migration):
            self.assert_bad_schema(1, "syntax error", call, "?")
            self.assert_refused_unchanged(primary, "too many revisions", -1, call, OTHER)


class TokensTest(PrimaryTest):
    def setUp(self):
        self.primary = Primary("main", TEXT, [A])
        self.primary.write([("create", *BAN)])
        self.primary.write([("delete", *BAN), ("create", *B)])
        self.primary.write([("delete", *A)])

    def readers(self):
        primary = self.primary
        reads = [primary.relationships, primary.schema_text, primary.grants, primary.snapshot]
        return [*reads, lambda at: primary.check("doc:a", "view", "user:u", at)]

    def test_reading_by_each_revision(self):
        primary = self.primary
        wanted = [[A], [BAN, A], [A, B], [B]]
        for revision, relationships in enumerate(wanted):
            at = f"main@{revision}"
            table = evaluate(read_schema(TEXT), relationships)
            self.assertEqual(primary.relationships(at), sorted(relationships))
            self.assertEqual(primary.grants(at), table)
            self.assertEqual(primary.snapshot(at), ("main", revision, table))
            self.assertEqual(primary.schema_text(at), schema_text(read_schema(TEXT)))
            allowed = ("doc:a", "view", "user:u") in table
            self.assertEqual(primary.check("doc:a", "view", "user:u", at), (allowed, at))
        for read in self.readers():
            self.assertEqual(read(""), read("main@3"))

    def test_errors_of_a_token(self):
        for read in self.readers():
            self.assert_refused("token of another store", -1, read, "other@1")
            self.assert_refused("token of another store", -1, read, "other@4")
            self.assert_refused("token of another store", -1, read, "mai@0")
            self.assert_refused("no such revision", -1, read, "main@4")
            self.assert_refused("no such revision", -1, read, "main@1000")

    def test_tokens_before_and_behind_a_compaction(self):
        primary = self.primary
        wanted = [read("main@2") for read in self.readers()]
        self.assertIsNone(primary.compact(2))
        self.assertEqual((primary.oldest(), primary.revision(), primary.token()), (2, 3, "main@3"))
        for read, result in zip(self.readers(), wanted):
            self.assertEqual(read("main@2"), result)
            self.assertEqual(read("main@3"), read(""))
            self.assert_refused("no such revision", -1, read, "main@1")
            self.assert_refused("no such revision", -1, read, "main@0")
            self.assert_refused("no such revision", -1, read, "main@4")
            self.assert_refused("token of another store", -1, read, "other@2")
        self.assertEqual(primary.write([("create", *A)]), "main@4")
        self.assertEqual(primary.relationships("main@4"), [A, B])

    def test_errors_of_a_question(self):
        primary = self.primary
        self.assert_refused("unknown type", -1, primary.check, "x:a", "view", "user:u", "main@0")
        self.assert_refused("unknown type", -1, primary.check, "doc:a", "none", "x:u", "")
        self.assert_refused("unknown name", -1, primary.check, "doc:a", "member", "user:u", "")
        self.assert_refused("token of another store", -1, primary.check, "x:a", "view", "user:u", "other@0")
        self.assert_refused("no such revision", -1, primary.check, "x:a", "view", "user:u", "main@4")
        primary.migrate(OTHER)
        self.assert_refused("unknown name", -1, primary.check, "doc:b", "view", "user:u", "")
        self.assertEqual(primary.check("doc:b", "see", "user:u", ""), (True, "main@4"))
        self.assertEqual(primary.check("doc:b", "view", "user:u", "main@3"), (True, "main@3"))
        self.assert_refused("unknown name", -1, primary.check, "doc:b", "see", "user:u", "main@3")


class FeedTest(PrimaryTest):
    def setUp(self):
        self.primary = Primary("main", TEXT, [A])
        self.primary.write([("create", *BAN)])
        self.primary.write([("create", *B)])
        self.primary.write([("delete", *BAN)])

    def test_entries(self):
        primary = self.primary
        tables = [primary.grants(f"main@{revision}") for revision in range(4)]
        for revision in (1, 2, 3):
            change = difference(tables[revision - 1], tables[revision])
            self.assertEqual(primary.entry(revision), ("main", revision, *change))
        for revision in (-1, 0, 4, 5):
            self.assert_refused("no such revision", -1, primary.entry, revision)

    def test_changes(self):
        primary = self.primary
        tables = [primary.grants(f"main@{revision}") for revision in range(4)]
        for first in range(-1, 6):
            for second in range(-1, 6):
                if 0 <= first <= second <= 3:
                    self.assertEqual(primary.changes(first, second), difference(tables[first], tables[second]))
                else:
                    self.assert_refused("no such revision", -1, primary.changes, first, second)

    def test_a_compaction_forgets_entries(self):
        primary = self.primary
        wanted = (primary.entry(3), primary.changes(2, 3))
        for revision in (-1, 4):
            self.assert_refused_unchanged(primary, "no such revision", -1, primary.compact, revision)
        primary.compact(0)
        self.assertEqual(primary.oldest(), 0)
        primary.compact(2)
        for revision in (0, 1, 2, 4):
            self.assert_refused("no such revision", -1, primary.entry, revision)
        self.assertEqual((primary.entry(3), primary.changes(2, 3)), wanted)
        self.assert_refused("no such revision", -1, primary.changes, 1, 3)
        for revision in (0, 1, 4):
            self.assert_refused_unchanged(primary, "no such revision", -1, primary.compact, revision)
        primary.compact(2)
        primary.compact(3)
        self.assertEqual((primary.oldest(), primary.revision()), (3, 3))
        self.assert_refused("no such revision", -1, primary.entry, 3)
        self.assertEqual(primary.changes(3, 3), ([], []))


class OwnershipTest(unittest.TestCase):
    def test_later_changes_have_no_effect(self):
        given = [A, BAN]
        primary = Primary("main", TEXT, given)
        wanted = [("create", *B)]
        primary.write(wanted)
        before = state(primary)
        given.clear()
        wanted.clear()
        for part in (
            primary.relationships(""), primary.grants(""), primary.snapshot("")[2], primary.entry(1)[2],
            primary.changes(0, 1)[0], primary.preview([("delete", *B)])[1], primary.preview_migration(TEXT)[0],
        ):
            part.append(("doc:z", "owner", "user:z"))
        self.assertEqual(state(primary), before)

    def test_what_is_passed_is_not_modified(self):
        given, wanted = [B, A], [("delete", *B), ("create", *BAN)]
        primary = Primary("main", TEXT, given)
        primary.preview(wanted)
        primary.write(wanted)
        self.assertEqual((given, wanted), ([B, A], [("delete", *B), ("create", *BAN)]))
