"""Point 55: restoring the relationships of a revision."""

import copy
import random

from model import random_schema, random_updates
from raising import RaisingTest

from authsync.primary import Primary
from authsync.restoring import restore, updates_between
from authsync.schema import schema_text

TEXT = "type user\ntype doc\n  relation view: user\n  relation edit: user"
OTHER = TEXT + "\n  permission see = view"


def row(number, name="view"):
    return (f"doc:{number:02}", name, "user:u")


def rows(*numbers):
    return [row(number) for number in numbers]


def creating(*numbers):
    return [("create", *row(number)) for number in numbers]


def deleting(*numbers):
    return [("delete", *row(number)) for number in numbers]


class UpdatesTest(RaisingTest):
    def test_nothing_differs(self):
        self.assertEqual(updates_between([], []), [])
        self.assertEqual(updates_between(rows(1, 2), rows(1, 2)), [])

    def test_what_only_one_side_has(self):
        self.assertEqual(updates_between(rows(1, 2), rows(2)), deleting(1))
        self.assertEqual(updates_between(rows(2), rows(1, 2)), creating(1))
        self.assertEqual(updates_between([], rows(1, 2)), creating(1, 2))
        self.assertEqual(updates_between(rows(1, 2), []), deleting(1, 2))

    def test_in_the_order_of_the_relationships(self):
        wanted = [*creating(1), *deleting(2), *creating(4), *deleting(5, 6), *creating(7)]
        self.assertEqual(updates_between(rows(2, 3, 5, 6), rows(1, 3, 4, 7)), wanted)
        before, after = [row(1, "view")], [row(1, "edit")]
        self.assertEqual(updates_between(before, after), [("create", *row(1, "edit")), ("delete", *row(1, "view"))])

    def test_more_than_ten_updates(self):
        self.assertEqual(updates_between(rows(*range(30)), []), deleting(*range(30)))

    def test_arguments_are_not_modified(self):
        before, after = rows(1, 2), rows(2, 3)
        updates_between(before, after).clear()
        self.assertEqual((before, after), (rows(1, 2), rows(2, 3)))


class RestoringTest(RaisingTest):
    def primary(self, *numbers):
        return Primary("main", TEXT, rows(*numbers))

    def state(self, primary):
        tokens = [f"main@{number}" for number in range(primary.oldest(), primary.revision() + 1)]
        return [(token, primary.relationships(token), primary.schema_text(token), primary.grants(token)) for token in tokens]

    def assert_refused_unchanged(self, what, primary, at):
        before = copy.deepcopy(self.state(primary))
        self.assert_refused(what, -1, restore, primary, at)
        self.assertEqual(self.state(primary), before)

    def assert_restored(self, primary, at, *tokens):
        """Assert the tokens of restoring, and that what was before stays as it was."""
        before = self.state(primary)
        wanted = primary.relationships(at)
        self.assertEqual(restore(primary, at), list(tokens))
        self.assertEqual(primary.relationships(""), wanted)
        self.assertEqual(self.state(primary)[:len(before)], before)
        self.assertEqual(len(self.state(primary)), len(before) + len(tokens))

    def test_nothing_differs(self):
        primary = self.primary(1, 2)
        for at in ("", "main@0"):
            self.assert_restored(primary, at)
        primary.write(creating(3))
        primary.write(deleting(3))
        for at in ("", "main@0", "main@2"):
            self.assert_restored(primary, at)
        primary.write([("touch", *row(2))])
        self.assert_restored(primary, "main@2")

    def test_one_update(self):
        primary = self.primary(1, 2)
        primary.write(deleting(1))
        self.assert_restored(primary, "main@0", "main@2")
        self.assert_restored(primary, "main@1", "main@3")
        self.assertEqual(primary.relationships(""), rows(2))

    def test_deletions_and_creations_at_once(self):
        primary = self.primary(1, 3, 5)
        primary.write([*creating(2, 4), *deleting(1, 5)])
        self.assert_restored(primary, "main@0", "main@2")
        self.assertEqual(primary.changes(1, 2), (rows(1, 5), rows(2, 4)))

    def test_ten_and_eleven_updates(self):
        primary = self.primary(*range(10))
        primary.write(deleting(*range(10)))
        self.assert_restored(primary, "main@0", "main@2")
        primary.write([*deleting(*range(9)), *creating(20)])
        self.assert_restored(primary, "main@0", "main@4")
        primary.write(creating(30))
        primary.write(deleting(*range(10)))
        self.assert_restored(primary, "main@0", "main@7", "main@8")

    def test_ten_at_a_time_the_deletions_first_each_ascending(self):
        primary = self.primary(*range(0, 26, 2))
        primary.write(deleting(*range(0, 20, 2)))
        primary.write([*deleting(*range(20, 26, 2)), *creating(*range(1, 14, 2))])
        primary.write(creating(*range(15, 26, 2)))
        self.assert_restored(primary, "main@0", "main@4", "main@5", "main@6")
        self.assertEqual(primary.relationships("main@4"), rows(21, 23, 25))
        self.assertEqual(primary.relationships("main@5"), rows(*range(0, 13, 2)))
        self.assertEqual(primary.relationships("main@6"), rows(*range(0, 26, 2)))

    def test_40_relationships_for_40_others(self):
        primary = self.primary(*range(40))
        for first in range(0, 40, 10):
            primary.write(deleting(*range(first, first + 10)))
        for first in range(40, 80, 10):
            primary.write(creating(*range(first, first + 10)))
        self.assert_restored(primary, "main@0", *[f"main@{number}" for number in range(9, 17)])

    def test_a_revision_that_is_forgotten(self):
        primary = self.primary(1)
        for number in (2, 3, 4):
            primary.write(creating(number))
        primary.compact(2)
        for at in ("main@0", "main@1", "main@4", "main@1000"):
            self.assert_refused_unchanged("no such revision", primary, at)
        self.assert_restored(primary, "main@2", "main@4")

    def test_tokens_of_another_store(self):
        primary = self.primary(1)
        for at in ("other@0", "other@9", "mai@0"):
            self.assert_refused_unchanged("token of another store", primary, at)

    def test_a_revision_that_had_another_schema(self):
        primary = self.primary(1)
        primary.write(creating(2))
        primary.migrate(OTHER)
        for at in ("main@0", "main@1"):
            self.assert_refused_unchanged("schema has changed", primary, at)
        primary.write(deleting(1))
        self.assert_restored(primary, "main@2", "main@4")
        primary.migrate(TEXT)
        for at in ("main@2", "main@3", "main@4"):
            self.assert_refused_unchanged("schema has changed", primary, at)
        self.assert_restored(primary, "main@0", "main@6")

    def test_another_schema_is_told_where_nothing_differs(self):
        primary = self.primary(1)
        primary.migrate(OTHER)
        self.assert_refused_unchanged("schema has changed", primary, "main@0")

    def test_another_text_of_the_same_schema(self):
        primary = self.primary(1)
        primary.migrate("  " + TEXT.replace("  ", "").replace("\n", "\n\n") + "\n")
        primary.write(creating(2))
        self.assert_restored(primary, "main@0", "main@3")

    def touched(self, primary, revision):
        while primary.revision() < revision:
            primary.write([("touch", *row(1))])

    def test_just_40_and_41_revisions(self):
        for number, before, fits in ((10, 39, True), (10, 40, False), (11, 38, True), (11, 39, False), (25, 37, True),
                                     (25, 38, False), (1, 39, True), (1, 40, False)):
            primary = self.primary(1, *range(2, number + 2))
            for first in range(2, number + 2, 10):
                primary.write(deleting(*range(first, min(first + 10, number + 2))))
            self.touched(primary, before)
            if fits:
                self.assert_restored(primary, "main@0", *[f"main@{one}" for one in range(before + 1, 41)])
            else:
                self.assert_refused_unchanged("too many revisions", primary, "main@0")

    def test_nothing_differs_at_revision_40(self):
        primary = self.primary(1)
        self.touched(primary, 40)
        self.assert_restored(primary, "main@0")

    def test_more_relationships_than_can_be_written(self):
        primary = self.primary(*range(45))
        self.assert_restored(primary, "main@0")
        primary.write(deleting(*range(10)))
        primary.write(deleting(*range(10, 20)))
        self.assert_refused_unchanged("too many relationships", primary, "main@0")

    def test_which_error_is_told(self):
        primary = self.primary(1, 2)
        primary.write(deleting(2))
        primary.migrate(OTHER)
        self.touched(primary, 40)
        self.assert_refused_unchanged("schema has changed", primary, "main@0")
        self.assert_refused_unchanged("no such revision", primary, "main@41")
        self.assert_refused_unchanged("token of another store", primary, "other@41")
        primary.compact(2)
        self.assert_refused_unchanged("no such revision", primary, "main@0")

    def test_any_revisions(self):
        rng = random.Random(55)
        writes = 0
        for _ in range(40):
            primary = Primary("main", schema_text(random_schema(rng)))
            schema = random_schema(rng)
            primary.migrate(schema_text(schema))
            for _ in range(12):
                primary.write(random_updates(rng, schema, set(primary.relationships(""))))
            for _ in range(4):
                at = rng.randint(1, primary.revision())
                before = self.state(primary)
                tokens = restore(primary, f"main@{at}")
                self.assertEqual(primary.relationships(""), before[at][1])
                self.assertEqual(primary.grants(""), before[at][3])
                self.assertEqual(self.state(primary)[:len(before)], before)
                self.assertEqual(tokens, [one[0] for one in self.state(primary)[len(before):]])
                writes += len(tokens)
        self.assertGreater(writes, 100)
