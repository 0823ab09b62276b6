"""Points 36 and 39: journals and the texts of logs."""

import random

from raising import RaisingTest

from authsync.audits import audit
from authsync.journal import Journal, read_log, write_log
from authsync.links import Follower
from authsync.primary import Primary
from authsync.replica import Replica

TEXT = "type user\ntype doc\nrelation view: user"
QUESTION = ("doc:a", "view", "user:u")
OTHER = ("doc:b", "view", "user:u")


def reader(revision, *grants, kind=Replica, store="main"):
    return kind((store, revision, sorted(grants)))


class JournalTest(RaisingTest):
    def setUp(self):
        self.journal = Journal()

    def state(self):
        return (self.journal.log(), [self.journal.token_of(client) for client in ("c", "d", "e")])

    def assert_refused_unchanged(self, what, *values):
        before = self.state()
        self.assert_refused(what, -1, self.journal.ask, *values)
        self.assertEqual(self.state(), before)

    def test_a_journal_without_lines(self):
        self.assertEqual((self.journal.log(), self.journal.token_of("c")), ([], ""))
        self.assertIsNone(self.journal.forget("c"))

    def test_answers_are_noted(self):
        for kind in (Replica, Follower):
            self.journal = Journal()
            self.assertEqual(self.journal.ask("c", reader(3, QUESTION, kind=kind), *QUESTION), (True, "main@3"))
            self.assertEqual(self.journal.ask("c", reader(7, kind=kind), *OTHER), (False, "main@7"))
            self.assertEqual(self.journal.ask("c", reader(7, QUESTION, kind=kind), *QUESTION), (True, "main@7"))
            wanted = [("c", *QUESTION, True, 0, 3), ("c", *OTHER, False, 3, 7), ("c", *QUESTION, True, 7, 7)]
            self.assertEqual(self.journal.log(), wanted)

    def test_each_client_has_a_token(self):
        self.journal.ask("c", reader(3), *QUESTION)
        self.journal.ask("d", reader(1), *QUESTION)
        self.assertEqual([self.journal.token_of(client) for client in "cde"], ["main@3", "main@1", ""])
        self.journal.ask("d", reader(2), *OTHER)
        self.journal.ask("c", reader(4), *OTHER)
        self.assertEqual([self.journal.token_of(client) for client in "cde"], ["main@4", "main@2", ""])
        self.assertEqual([one[0] for one in self.journal.log()], ["c", "d", "d", "c"])
        self.assertEqual([one[5:] for one in self.journal.log()], [(0, 3), (0, 1), (1, 2), (3, 4)])

    def test_the_last_token_is_demanded(self):
        self.journal.ask("c", reader(3), *QUESTION)
        for kind in (Replica, Follower):
            self.assert_refused_unchanged("replica is behind", "c", reader(2, kind=kind), *QUESTION)
            other = reader(5, kind=kind, store="other")
            self.assert_refused_unchanged("token of another store", "c", other, *QUESTION)
        self.assertEqual(self.journal.ask("d", reader(2), *QUESTION), (False, "main@2"))
        self.assertEqual(self.journal.ask("c", reader(3), *QUESTION), (False, "main@3"))

    def test_revision_0_is_demanded_too(self):
        self.journal.ask("c", reader(0), *QUESTION)
        self.assertEqual(self.journal.token_of("c"), "main@0")
        self.assert_refused_unchanged("token of another store", "c", reader(5, store="other"), *QUESTION)

    def test_a_client_that_was_forgotten(self):
        self.journal.ask("c", reader(3), *QUESTION)
        self.journal.ask("d", reader(3), *QUESTION)
        self.assertIsNone(self.journal.forget("c"))
        self.assertEqual([self.journal.token_of(client) for client in "cd"], ["", "main@3"])
        self.assertEqual(len(self.journal.log()), 2)
        self.assertEqual(self.journal.ask("c", reader(2), *QUESTION), (False, "main@2"))
        self.assertEqual(self.journal.log()[-1], ("c", *QUESTION, False, 0, 2))
        self.assertEqual(self.journal.token_of("c"), "main@2")
        self.assert_refused_unchanged("replica is behind", "d", reader(2), *QUESTION)

    def test_a_forgotten_client_can_ask_at_another_store(self):
        self.journal.ask("c", reader(3), *QUESTION)
        self.journal.forget("c")
        self.assertEqual(self.journal.ask("c", reader(1, store="other"), *QUESTION), (False, "other@1"))

    def test_later_changes_have_no_effect(self):
        self.journal.ask("c", reader(3), *QUESTION)
        self.journal.log().clear()
        self.assertEqual(self.journal.log(), [("c", *QUESTION, False, 0, 3)])

    def test_journals_can_always_be_explained(self):
        rng = random.Random(36)
        for _ in range(30):
            primary = Primary("main", TEXT)
            first = primary.snapshot("")
            present = []
            for _ in range(8):
                target = f"doc:{rng.choice('ab')}"
                kind = "delete" if target in present else "create"
                present = [one for one in present if one != target] + ([target] if kind == "create" else [])
                primary.write([(kind, target, "view", "user:u")])
            entries = [primary.entry(revision) for revision in range(1, 9)]
            self.ask_any(rng, first, entries)
            explained, revisions = audit(first, entries, self.journal.log())
            self.assertTrue(explained)
            self.assertTrue(all(one[5] <= at <= one[6] for one, at in zip(self.journal.log(), revisions)))

    def ask_any(self, rng, first, entries):
        self.journal = Journal()
        readers = [Replica(first), Replica(first)]
        for _ in range(40):
            one = rng.choice(readers)
            if rng.random() < 0.4 and one.revision() < 8:
                one.receive(entries[one.revision()])
            client = rng.choice("cd")
            if self.journal.token_of(client) in [f"main@{revision}" for revision in range(one.revision() + 1, 9)]:
                self.assert_refused_unchanged("replica is behind", client, one, *QUESTION)
            else:
                self.journal.ask(client, one, *rng.choice([QUESTION, OTHER]))


LOG = [("c", *QUESTION, True, 0, 3), ("d_1", "doc:b", "own", "user:9", False, 1000, 10), ("c", *OTHER, False, 3, 0)]
LOG_TEXT = "c doc:a view user:u yes 0 3\nd_1 doc:b own user:9 no 1000 10\nc doc:b view user:u no 3 0"


class TextTest(RaisingTest):
    def test_writing_and_reading(self):
        self.assertEqual(write_log(LOG), LOG_TEXT)
        self.assertEqual(read_log(LOG_TEXT), LOG)
        self.assertEqual(write_log(LOG[:1]), "c doc:a view user:u yes 0 3")

    def test_logs_without_lines(self):
        self.assertEqual((write_log([]), read_log("")), ("", []))

    def test_what_was_read_has_truth_values(self):
        self.assertIs(read_log(LOG_TEXT)[0][4], True)
        self.assertIs(read_log(LOG_TEXT)[1][4], False)

    def test_lines_that_are_not_known(self):
        good = "c doc:a view user:u yes 0 3"
        parts = good.split(" ")
        wrong = {
            0: ["", "C", "1c", "c-", "c" * 21, "doc:a"],
            1: ["", "doc", "doc:", ":a", "doc:a#x", "Doc:a"],
            2: ["", "View", "_view", "view#", "v" * 21],
            3: ["", "user", "user:u#member", "user:U"],
            4: ["", "Yes", "YES", "true", "True", "1", "yesno"],
            5: ["", "00", "01", "-1", "+1", "1001", "x", "1.0", "10000"],
            6: ["", "03", "-3", "1001", "3x", "3,", "99999999999999999999"],
        }
        for place, words in wrong.items():
            for word in words:
                bad = " ".join(parts[:place] + [word] + parts[place + 1:])
                self.assert_bad_feed(1, "line is not known", read_log, bad)
                self.assert_bad_feed(2, "line is not known", read_log, f"{good}\n{bad}\n{good}")
        for bad in (" ", " " + good, good + " ", good.replace(" ", "  ", 1), good + " 4", good[:-2], "yes"):
            self.assert_bad_feed(1, "line is not known", read_log, bad)

    def test_empty_lines_are_not_known(self):
        good = "c doc:a view user:u yes 0 3"
        self.assert_bad_feed(2, "line is not known", read_log, good + "\n")
        self.assert_bad_feed(1, "line is not known", read_log, "\n" + good)
        self.assert_bad_feed(1, "line is not known", read_log, "\n")
        self.assert_bad_feed(2, "line is not known", read_log, f"{good}\n\n{good}")

    def test_the_first_line_is_told(self):
        good = "c doc:a view user:u no 0 3"
        self.assert_bad_feed(3, "line is not known", read_log, f"{good}\n{good}\nno\n{good}\nno")

    def test_revisions_0_and_1000(self):
        for text in ("c doc:a view user:u yes 0 1000", "c doc:a view user:u yes 1000 0"):
            self.assertEqual(write_log(read_log(text)), text)

    def test_arguments_are_not_modified(self):
        given = list(LOG)
        write_log(given)
        self.assertEqual(given, LOG)
