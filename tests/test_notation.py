"""Points 37 and 38: the texts of snapshots and of entries of a feed."""

import copy
import random

from raising import RaisingTest

from authsync.notation import read_feed, read_snapshot, write_feed, write_snapshot

A, B, C, D = [(f"doc:{letter}", "view", "user:u") for letter in "abcd"]
GRANT = "doc:a view user:u"
WRONG_STORES = ["", "Main", "1main", "main@", "m" * 21, "doc:a"]
WRONG_REVISIONS = ["", "01", "00", "001", "-1", "+1", "1001", "10000", "x", "1x", "1.0", "1" * 30]
WRONG_GRANTS = [
    "", " ", "doc:a", "doc:a view", "doc:a view ", "doc:a view user:u ", " doc:a view user:u", "doc:a  view user:u",
    "doc:a view user:u user:u", "doc view user:u", "doc: view user:u", ":a view user:u", "doc:a#x view user:u",
    "doc:a View user:u", "doc:a 1 user:u", "doc:a doc:b user:u", "doc:a view user", "doc:a view user:u#member",
    "doc:a view u", "Doc:a view user:u", "doc:a view user:" + "u" * 21,
]


class SnapshotTest(RaisingTest):
    def test_snapshots(self):
        snapshot = ("main", 12, [A, ("doc:a", "view", "user:v"), B])
        text = "snapshot main 12\n= doc:a view user:u\n= doc:a view user:v\n= doc:b view user:u"
        self.assertEqual(write_snapshot(snapshot), text)
        self.assertEqual(read_snapshot(text), snapshot)

    def test_snapshots_without_grants(self):
        for store, revision in (("main", 0), ("m_1", 1), ("snapshot", 1000)):
            text = f"snapshot {store} {revision}"
            self.assertEqual(write_snapshot((store, revision, [])), text)
            self.assertEqual(read_snapshot(text), (store, revision, []))

    def test_the_head_is_expected(self):
        heads = [f"snapshot {store} 1" for store in WRONG_STORES] + [f"snapshot main {one}" for one in WRONG_REVISIONS]
        heads += ["", " ", "snapshot", "snapshot main", " snapshot main 1", "snapshot main 1 ", "snapshot  main 1"]
        heads += ["snapshot main 1 2", "Snapshot main 1", "snapshots main 1", "entry main 1", "= " + GRANT, "want main 1"]
        for head in heads:
            self.assert_bad_feed(1, "head is expected", read_snapshot, head)
            self.assert_bad_feed(1, "head is expected", read_snapshot, f"{head}\n= {GRANT}\nno")

    def test_lines_that_are_not_known(self):
        lines = [f"= {grant}" for grant in WRONG_GRANTS] + [f"{sign} {GRANT}" for sign in ("+", "-", "==", "", "#")]
        lines += ["", " ", "=", f"={GRANT}", f" = {GRANT}", "entry main 2", "snapshot main 1", "head"]
        for line in lines:
            self.assert_bad_feed(2, "line is not known", read_snapshot, f"snapshot main 1\n{line}")
            text = f"snapshot main 1\n= {GRANT}\n{line}\n= {GRANT}"
            self.assert_bad_feed(3, "line is not known", read_snapshot, text)

    def test_the_order_is_wrong(self):
        for grant in (GRANT, "doc:a view user:t", "doc:a edit user:v", "doc:9 view user:z"):
            text = f"snapshot main 1\n= {GRANT}\n= {grant}\n= doc:b view user:u"
            self.assert_bad_feed(3, "order is wrong", read_snapshot, text)
        text = f"snapshot main 1\n= doc:b view user:u\n= doc:c view user:u\n= {GRANT}\nno"
        self.assert_bad_feed(4, "order is wrong", read_snapshot, text)


class FeedTest(RaisingTest):
    def assert_fault(self, line, what, *lines):
        self.assert_bad_feed(line, what, read_feed, "\n".join(lines))
        self.assert_bad_feed(line, what, read_feed, "\n".join([*lines, "no"]))

    def test_the_example(self):
        text = "entry main 2\n+ doc:a view user:u\n- doc:b view user:u"
        self.assertEqual(read_feed(text), [("main", 2, [A], [B])])
        self.assertEqual(write_feed([("main", 2, [A], [B])]), text)

    def test_no_entries(self):
        self.assertEqual((write_feed([]), read_feed("")), ("", []))

    def test_several_entries(self):
        entries = [("main", 1, [A, C], []), ("main", 2, [], []), ("main", 3, [B], [A, C]), ("main", 4, [], [B])]
        text = "\n".join([
            "entry main 1", "+ doc:a view user:u", "+ doc:c view user:u", "entry main 2", "entry main 3",
            "+ doc:b view user:u", "- doc:a view user:u", "- doc:c view user:u", "entry main 4", "- doc:b view user:u",
        ])
        self.assertEqual(write_feed(entries), text)
        self.assertEqual(read_feed(text), entries)

    def test_entries_without_changes(self):
        for store, revision in (("main", 1), ("entry", 1000), ("m_1", 10)):
            text = f"entry {store} {revision}"
            self.assertEqual(write_feed([(store, revision, [], [])]), text)
            self.assertEqual(read_feed(text), [(store, revision, [], [])])

    def test_any_stores_and_revisions_can_follow_one_another(self):
        entries = [("main", 5, [A], []), ("other", 2, [A], []), ("main", 5, [A], [])]
        self.assertEqual(read_feed(write_feed(entries)), entries)

    def test_the_head_is_expected(self):
        heads = [f"entry {store} 1" for store in WRONG_STORES] + [f"entry main {one}" for one in WRONG_REVISIONS]
        heads += ["entry main 0", " ", "entry", "entry main", " entry main 1", "entry main 1 ", "entry  main 1"]
        heads += ["entry main 1 2", "Entry main 1", "entries main 1", "snapshot main 1", "+ " + GRANT, "- " + GRANT]
        for head in heads:
            self.assert_bad_feed(1, "head is expected", read_feed, head)
            self.assert_bad_feed(1, "head is expected", read_feed, f"{head}\nentry main 1\n+ {GRANT}")
        self.assert_bad_feed(1, "head is expected", read_feed, "\n")
        self.assert_bad_feed(1, "head is expected", read_feed, "\nentry main 1")

    def test_lines_that_are_not_known(self):
        lines = [f"{sign} {grant}" for grant in WRONG_GRANTS for sign in "+-"]
        lines += [f"{sign} {GRANT}" for sign in ("=", "++", "--", "+-", "", "#")]
        lines += ["", " ", "+", "-", f"+{GRANT}", f" + {GRANT}", f"-{GRANT}", "snapshot main 1", "head"]
        lines += [f"entry {store} 1" for store in WRONG_STORES] + [f"entry main {one}" for one in WRONG_REVISIONS]
        lines += ["entry main 0", "entry main 2 ", "entry main"]
        for line in lines:
            self.assert_fault(2, "line is not known", "entry main 1", line)
            self.assert_fault(4, "line is not known", "entry main 1", "+ doc:b view user:u", "entry main 2", line)

    def test_the_order_is_wrong(self):
        for sign in "+-":
            for grant in (GRANT, "doc:a view user:t", "doc:a edit user:v", "doc:9 view user:z"):
                self.assert_fault(3, "order is wrong", "entry main 1", f"{sign} {GRANT}", f"{sign} {grant}")

    def test_a_gained_grant_behind_a_lost_one(self):
        self.assert_fault(3, "order is wrong", "entry main 1", "- doc:a view user:u", "+ doc:b view user:u")
        self.assert_fault(3, "order is wrong", "entry main 1", "- doc:a view user:u", "+ doc:a view user:u")
        lines = ["entry main 1", "+ doc:a view user:u", "- doc:b view user:u", "+ doc:c view user:u"]
        self.assert_fault(4, "order is wrong", *lines)

    def test_a_grant_in_both(self):
        self.assert_fault(3, "grant is in both", "entry main 1", f"+ {GRANT}", f"- {GRANT}")
        lines = ["entry main 1", "+ doc:a view user:u", "+ doc:c view user:u", "- doc:b view user:u"]
        self.assert_fault(5, "grant is in both", *lines, "- doc:c view user:u")
        self.assert_fault(5, "order is wrong", *lines, "- doc:a view user:u")

    def test_each_entry_begins_anew(self):
        entries = [("main", 1, [B], [C]), ("main", 2, [A, C], [B]), ("main", 3, [B], [A])]
        self.assertEqual(read_feed(write_feed(entries)), entries)

    def test_the_first_fault_is_told(self):
        lines = ["entry main 1", f"+ {GRANT}", f"+ {GRANT}", "", f"- {GRANT}"]
        self.assert_fault(3, "order is wrong", *lines)
        self.assert_fault(4, "line is not known", *lines[:2], "entry main 2", "", *lines[2:])

    def test_the_lists_are_new(self):
        entries = [("main", 1, [A], [B])]
        given = copy.deepcopy(entries)
        text = write_feed(given)
        snapshot = ("main", 1, [A])
        write_snapshot(snapshot)
        self.assertEqual((given, snapshot), (entries, ("main", 1, [A])))
        read_feed(text)[0][2].clear()
        self.assertEqual(read_feed(text), entries)


class AnyTextTest(RaisingTest):
    def test_what_is_written_is_read(self):
        rng = random.Random(37)
        grants = [(f"doc:{one}", name, f"user:{two}") for one in "a1_" for name in ("v", "v1") for two in "ab"]
        for _ in range(200):
            entries = []
            for _ in range(rng.randint(0, 4)):
                changed = rng.sample(grants, rng.randint(0, 6))
                split = rng.randint(0, len(changed))
                entries.append(("main", rng.randint(1, 1000), sorted(changed[:split]), sorted(changed[split:])))
            self.assertEqual(read_feed(write_feed(entries)), entries)
            snapshot = ("main", rng.randint(0, 1000), sorted(rng.sample(grants, rng.randint(0, 12))))
            self.assertEqual(read_snapshot(write_snapshot(snapshot)), snapshot)
