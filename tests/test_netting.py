"""Points 56 and 57: several entries."""

import copy
import random

from model import random_schema, random_updates
from raising import RaisingTest

from authsync.changes import apply_change, compose, difference
from authsync.netting import digest, flips, net_change, news_for
from authsync.primary import Primary
from authsync.schema import schema_text

A, B, C = [(f"doc:{letter}", "view", "user:u") for letter in "abc"]
V = ("doc:a", "view", "user:v")
OWN = ("doc:a", "own", "user:u")


def entry(revision, gained=(), lost=(), store="main"):
    return (store, revision, sorted(gained), sorted(lost))


class NettingTest(RaisingTest):
    def calls(self, entries):
        """All that can be asked of entries."""
        return [(net_change, entries), (news_for, entries, "user:u"), (flips, entries), (digest, entries)]

    def assert_refused_by_all(self, what, index, entries):
        given = copy.deepcopy(entries)
        for call, *values in self.calls(entries):
            self.assert_refused(what, index, call, *values)
        self.assertEqual(entries, given)


class RowTest(NettingTest):
    def test_entries_that_follow_one_another(self):
        for first in (1, 7, 960):
            entries = [entry(first + number) for number in range(40)]
            for call, *values in self.calls(entries):
                self.assertIn(call(*values), [([], []), []])

    def test_one_entry_follows_always(self):
        self.assertEqual(net_change([entry(9, [A], [B], "other")]), ([A], [B]))

    def test_entries_of_another_store(self):
        self.assert_refused_by_all("entry of another store", 1, [entry(1), entry(2, store="other")])
        self.assert_refused_by_all("entry of another store", 2, [entry(1), entry(2), entry(3, store="other"), entry(9)])
        self.assert_refused_by_all("entry of another store", 1, [entry(1), entry(5, store="other"), entry(2)])
        self.assert_refused_by_all("entry of another store", 1, [entry(1, store="other"), entry(2), entry(3)])

    def test_entries_that_are_not_the_next_one(self):
        for revision in (1, 2, 3, 5, 6, 100):
            self.assert_refused_by_all("entry is not the next one", 1, [entry(3), entry(revision)])
        self.assert_refused_by_all("entry is not the next one", 2, [entry(3), entry(4), entry(6), entry(7)])
        self.assert_refused_by_all("entry is not the next one", 3, [entry(3), entry(4), entry(5), entry(5), entry(1)])
        self.assert_refused_by_all("entry is not the next one", 1, [entry(3), entry(2), entry(3, store="other")])

    def test_the_row_is_told_before_what_does_not_compose(self):
        entries = [entry(1, [A]), entry(2, [A]), entry(4)]
        self.assert_refused_by_all("entry is not the next one", 2, entries)
        self.assert_refused_by_all("entry of another store", 2, [*entries[:2], entry(3, store="other")])


class NetChangeTest(NettingTest):
    def test_no_entries(self):
        self.assertEqual(net_change([]), ([], []))
        self.assertEqual((news_for([], "user:u"), flips([]), digest([])), ([], [], []))

    def test_one_entry(self):
        self.assertEqual(net_change([entry(1, [C, A], [B])]), ([A, C], [B]))

    def test_several_entries(self):
        self.assertEqual(net_change([entry(1, [B], [V]), entry(2, [A], [C]), entry(3)]), ([A, B], [V, C]))

    def test_a_grant_that_is_gained_and_lost_again(self):
        self.assertEqual(net_change([entry(1, [A, B]), entry(2, [], [A])]), ([B], []))
        self.assertEqual(net_change([entry(1, [], [A]), entry(2), entry(3, [A])]), ([], []))
        self.assertEqual(net_change([entry(1, [A]), entry(2, [], [A]), entry(3, [A])]), ([A], []))
        self.assertEqual(net_change([entry(1, [], [A]), entry(2, [A], [B]), entry(3, [B], [A])]), ([], [A]))

    def test_changes_that_do_not_compose(self):
        for entries in (
            [entry(1, [A]), entry(2, [A])], [entry(1, [], [A]), entry(2, [], [A, B])],
            [entry(1, [A]), entry(2), entry(3, [B], [C]), entry(4, [A, V])],
            [entry(1, [A]), entry(2, [], [A]), entry(3, [], [B]), entry(4, [], [B])],
        ):
            for call in (net_change, digest):
                self.assert_refused("changes do not compose", -1, call, entries)
            self.assertGreater(len(flips(entries)), 0)
            self.assertGreater(len(news_for(entries, "user:u")), 1)

    def test_arguments_are_not_modified(self):
        entries = [entry(1, [A, B], [V]), entry(2, [V], [A])]
        given = copy.deepcopy(entries)
        for call, *values in self.calls(entries):
            found = call(*values)
            if isinstance(found, list):
                found.clear()
            else:
                found[0].clear()
                found[1].clear()
        one = [entry(1, [A], [B])]
        net_change(one)[0].append(C)
        self.assertEqual((entries, one), (given, [entry(1, [A], [B])]))


class NewsTest(NettingTest):
    def test_gained_and_lost_grants(self):
        entries = [entry(4, [B, A, OWN], [C]), entry(5), entry(6, [C], [A, B])]
        self.assertEqual(news_for(entries, "user:u"), [
            (4, "gained", "doc:a", "own"), (4, "gained", "doc:a", "view"), (4, "gained", "doc:b", "view"),
            (4, "lost", "doc:c", "view"), (6, "gained", "doc:c", "view"),
            (6, "lost", "doc:a", "view"), (6, "lost", "doc:b", "view"),
        ])

    def test_grants_of_other_subjects(self):
        entries = [entry(4, [A, V]), entry(5, [], [V])]
        self.assertEqual(news_for(entries, "user:v"), [(4, "gained", "doc:a", "view"), (5, "lost", "doc:a", "view")])
        self.assertEqual(news_for(entries, "user:u"), [(4, "gained", "doc:a", "view")])

    def test_a_subject_that_no_entry_names(self):
        entries = [entry(4, [A, V], [B])]
        for subject in ("user:w", "doc:a", "group:u", "user:u1"):
            self.assertEqual(news_for(entries, subject), [])


class FlipsTest(NettingTest):
    def test_grants_of_two_and_more_entries(self):
        entries = [entry(4, [B, C], [A]), entry(5, [A], [V]), entry(6, [], [A, C]), entry(7, [A, OWN])]
        self.assertEqual(flips(entries), [
            (A, [(4, "lost"), (5, "gained"), (6, "lost"), (7, "gained")]), (C, [(4, "gained"), (6, "lost")]),
        ])

    def test_grants_of_one_entry(self):
        self.assertEqual(flips([entry(4, [A, B], [C]), entry(5, [V], [OWN])]), [])
        self.assertEqual(flips([entry(4, [A, B], [C])]), [])

    def test_in_the_order_of_the_grants(self):
        grants = [C, V, A, OWN, B]
        found = flips([entry(1, grants), entry(2, [], grants)])
        self.assertEqual([grant for grant, _ in found], sorted(grants))
        self.assertTrue(all(changes == [(1, "gained"), (2, "lost")] for _, changes in found))


class DigestTest(NettingTest):
    def test_subjects_that_gain_and_lose(self):
        entries = [entry(1, [B, V], [C]), entry(2, [OWN, A]), entry(3, [], [("doc:x", "view", "group:g")])]
        self.assertEqual(digest(entries), [
            ("group:g", [], [("doc:x", "view")]),
            ("user:u", [("doc:a", "own"), ("doc:a", "view"), ("doc:b", "view")], [("doc:c", "view")]),
            ("user:v", [("doc:a", "view")], []),
        ])

    def test_a_net_change_that_leaves_nothing_of_a_subject(self):
        entries = [entry(1, [A, V], [B]), entry(2, [B], [A])]
        self.assertEqual(digest(entries), [("user:v", [("doc:a", "view")], [])])
        self.assertEqual(digest(entries + [entry(3, [], [V])]), [])

    def test_no_change(self):
        self.assertEqual(digest([entry(1), entry(2)]), [])


class AnyEntriesTest(NettingTest):
    def test_any_feed(self):
        rng = random.Random(56)
        seen = [0, 0, 0]
        for _ in range(40):
            schema = random_schema(rng)
            primary = Primary("main", schema_text(schema))
            for _ in range(12):
                primary.write(random_updates(rng, schema, set(primary.relationships(""))))
            first = rng.randint(0, 6)
            last = rng.randint(first, 12)
            entries = [primary.entry(revision) for revision in range(first + 1, last + 1)]
            before, after = primary.grants(f"main@{first}"), primary.grants(f"main@{last}")
            net = net_change(entries)
            self.assertEqual(net, difference(before, after))
            self.assertEqual((net, apply_change(before, net)), (primary.changes(first, last), after))
            if len(entries) > 1:
                self.assertEqual(net, compose(entries[0][2:], net_change(entries[1:])))
            self.check_flips(entries, seen)
            self.check_digest(entries, net, seen)
        self.assertGreater(min(seen), 20)

    def all_effects(self, entries):
        return [
            (grant, (revision, effect))
            for _, revision, *changes in entries
            for effect, grants in zip(("gained", "lost"), changes)
            for grant in grants
        ]

    def check_flips(self, entries, seen):
        effects = self.all_effects(entries)
        grants = sorted({grant for grant, _ in effects})
        histories = [(grant, [effect for one, effect in effects if one == grant]) for grant in grants]
        self.assertEqual(flips(entries), [(grant, history) for grant, history in histories if len(history) > 1])
        for subject in sorted({grant[2] for grant in grants}) + ["user:none"]:
            wanted = [(*effect, *grant[:2]) for grant, effect in effects if grant[2] == subject]
            self.assertEqual(news_for(entries, subject), wanted)
            seen[0] += len(wanted)
        seen[1] += len(flips(entries))

    def check_digest(self, entries, net, seen):
        subjects = sorted({grant[2] for grants in net for grant in grants})
        wanted = [(one, *[[grant[:2] for grant in grants if grant[2] == one] for grants in net]) for one in subjects]
        self.assertEqual(digest(entries), wanted)
        seen[2] += len(wanted)
