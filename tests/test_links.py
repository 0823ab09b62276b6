"""Points 40, 41 and 42: requests, their answers, and followers."""

import copy
import itertools

from raising import RaisingTest

from authsync.links import Follower, answer_to, read_request
from authsync.notation import read_feed, write_feed, write_snapshot
from authsync.primary import Primary

TEXT = "type user\ntype doc\nrelation view: user"


def grant(number):
    return (f"doc:{number}", "view", "user:u")


def entry(revision, gained=(), lost=(), store="main"):
    return (store, revision, [grant(number) for number in gained], [grant(number) for number in lost])


def feed(*entries):
    return write_feed(entries)


def snapshot(revision, *numbers, store="main"):
    return (store, revision, [grant(number) for number in numbers])


def primary_at(revision, store="main"):
    """A primary whose table has one grant for each revision from 1."""
    primary = Primary(store, TEXT)
    for number in range(1, revision + 1):
        primary.write([("create", f"doc:{number}", "view", "user:u")])
    return primary


class RequestTest(RaisingTest):
    def test_requests(self):
        self.assertEqual(read_request("want main 0"), ("main", 0, []))
        self.assertEqual(read_request("want main 1"), ("main", 1, []))
        self.assertEqual(read_request("want m_1 1000"), ("m_1", 1000, []))
        self.assertEqual(read_request("want main 3 without 5"), ("main", 3, [5]))
        self.assertEqual(read_request("want main 3 without 5,6,40"), ("main", 3, [5, 6, 40]))
        self.assertEqual(read_request("want main 9 without 999,1000"), ("main", 9, [999, 1000]))
        self.assertEqual(read_request("want without 3"), ("without", 3, []))
        self.assertEqual(read_request("want want 3 without 5"), ("want", 3, [5]))

    def test_other_texts(self):
        texts = ["", " ", "want", "want main", "want main ", "want 3", "main 3", "Want main 3", "wants main 3"]
        texts += [" want main 3", "want main 3 ", "want  main 3", "want main  3", "want main 3\n", "want main 3 4"]
        texts += [f"want {store} 3" for store in ("", "Main", "1m", "main@3", "m" * 21)]
        texts += [f"want main {one}" for one in ("", "01", "00", "-1", "+1", "1001", "x", "3,5", "1" * 40)]
        texts += ["want main 3 without", "want main 3 without ", "want main 3  without 5", "want main 3 without  5"]
        texts += ["want main 3 without 5 ", "want main 3 without 5 6", "want main 3 Without 5", "want main 3 with 5"]
        texts += [f"want main 3 without {one}" for one in (",", "5,", ",5", "5,,6", "5, 6", "5;6", "05", "x", "1001")]
        texts += [f"want main 3 without {one}" for one in ("6,5", "5,5", "5,7,6", "10,9", "5,06", "5,x", "5,1001")]
        texts += ["want main x without 5", "want Main 3 without 5", "entry main 3", "snapshot main 3"]
        for text in texts:
            self.assert_bad_feed(1, "no request", read_request, text)
            self.assert_bad_feed(1, "no request", answer_to, primary_at(0, "other"), text)


class AnswerTest(RaisingTest):
    def assert_answer(self, primary, request, *revisions):
        before = (primary.revision(), primary.oldest(), primary.grants(""))
        self.assertEqual(answer_to(primary, request), feed(*[primary.entry(one) for one in revisions]))
        self.assertEqual((primary.revision(), primary.oldest(), primary.grants("")), before)

    def test_entries_behind_the_revision(self):
        primary = primary_at(4)
        self.assert_answer(primary, "want main 0", 1, 2, 3, 4)
        self.assert_answer(primary, "want main 2", 3, 4)
        self.assert_answer(primary, "want main 3", 4)
        self.assertEqual(answer_to(primary, "want main 3"), "entry main 4\n+ doc:4 view user:u")

    def test_nothing_is_behind_the_present_revision(self):
        self.assertEqual(answer_to(primary_at(4), "want main 4"), "")
        self.assertEqual(answer_to(primary_at(0), "want main 0"), "")

    def test_entries_that_wait_are_left_out(self):
        primary = primary_at(6)
        self.assert_answer(primary, "want main 1 without 3,5", 2, 4, 6)
        self.assert_answer(primary, "want main 1 without 3,5,9", 2, 4, 6)
        self.assert_answer(primary, "want main 5 without 6")

    def test_ten_and_eleven_entries(self):
        self.assert_answer(primary_at(10), "want main 0", *range(1, 11))
        self.assert_answer(primary_at(11), "want main 0", *range(1, 11))
        self.assert_answer(primary_at(14), "want main 3", *range(4, 14))

    def test_ten_and_eleven_entries_of_which_some_wait(self):
        self.assert_answer(primary_at(12), "want main 0 without 2,3", 1, *range(4, 13))
        self.assert_answer(primary_at(13), "want main 0 without 2,3", 1, *range(4, 13))
        self.assert_answer(primary_at(13), "want main 0 without 2,13", 1, *range(3, 12))
        self.assert_answer(primary_at(11), "want main 0 without 11", *range(1, 11))

    def test_behind_a_compaction(self):
        primary = primary_at(6)
        primary.compact(3)
        for request in ("want main 2", "want main 0", "want main 2 without 4,6"):
            self.assertEqual(answer_to(primary, request), write_snapshot(primary.snapshot("main@6")))
        self.assert_answer(primary, "want main 3", 4, 5, 6)
        self.assert_answer(primary, "want main 3 without 5", 4, 6)
        primary.compact(6)
        self.assertEqual(answer_to(primary, "want main 5"), write_snapshot(primary.snapshot("")))
        self.assertEqual(answer_to(primary, "want main 6"), "")

    def test_errors(self):
        primary = primary_at(3)
        primary.compact(2)
        for revision in (0, 2, 3, 4, 1000):
            request = f"want other {revision}"
            self.assert_refused("request of another store", -1, answer_to, primary, request)
        for request in ("want main 4", "want main 1000", "want main 4 without 6"):
            self.assert_refused("no such revision", -1, answer_to, primary, request)


class FollowerTest(RaisingTest):
    def table(self, follower):
        return [number for number in range(60) if follower.check(*grant(number), "")[0]]

    def state(self, follower):
        return (follower.store_id(), follower.revision(), follower.ask(), self.table(follower))

    def assert_state(self, follower, request, *numbers):
        self.assertEqual((follower.ask(), self.table(follower)), (request, list(numbers)))

    def assert_unchanged(self, follower, call, *values):
        before = self.state(follower)
        call(*values, follower.take)
        self.assertEqual(self.state(follower), before)


class FollowingTest(FollowerTest):
    def test_it_begins_with_a_snapshot(self):
        given = snapshot(3, 1, 2)
        follower = Follower(given)
        given[2].clear()
        self.assertEqual((follower.store_id(), follower.revision()), ("main", 3))
        self.assert_state(follower, "want main 3", 1, 2)

    def test_answers(self):
        follower = Follower(snapshot(3, 1, 2))
        for at_least in ("", "main@0", "main@3"):
            self.assertEqual(follower.check(*grant(1), at_least), (True, "main@3"))
        self.assertEqual(follower.check("no:x", "no", "no:y", "main@3"), (False, "main@3"))
        self.assert_refused("replica is behind", -1, follower.check, *grant(1), "main@4")
        self.assert_refused("token of another store", -1, follower.check, *grant(1), "other@3")

    def test_it_takes_entries(self):
        follower = Follower(snapshot(3, 1, 2))
        self.assertEqual(follower.take(feed(entry(4, [4], [1]), entry(5))), 2)
        self.assert_state(follower, "want main 5", 2, 4)
        self.assertEqual(follower.take(""), 0)
        self.assert_state(follower, "want main 5", 2, 4)

    def test_entries_that_wait_are_told(self):
        follower = Follower(snapshot(0))
        self.assertEqual(follower.take(feed(entry(12, [12]), entry(3, [3]))), 0)
        self.assertEqual(follower.ask(), "want main 0 without 3,12")
        self.assertEqual(follower.take(feed(entry(2, [2]))), 0)
        self.assertEqual(follower.ask(), "want main 0 without 2,3,12")
        self.assertEqual(follower.take(feed(entry(1, [1]), entry(5, [5]))), 3)
        self.assert_state(follower, "want main 3 without 5,12", 1, 2, 3)

    def test_texts_that_come_late_twice_and_in_another_order(self):
        texts = [feed(entry(1, [1]), entry(2, [2])), feed(entry(4, [4], [1]), entry(3, [3])), feed(entry(5, [1], [2]))]
        for order in itertools.permutations(texts * 2):
            follower = Follower(snapshot(0))
            self.assertEqual(sum(follower.take(text) for text in order), 5)
            self.assert_state(follower, "want main 5", 1, 3, 4)

    def test_asking_and_taking_until_nothing_is_missing(self):
        primary = primary_at(25)
        follower = Follower(snapshot(0))
        follower.take(feed(primary.entry(7), primary.entry(20)))
        self.assertEqual([follower.take(answer_to(primary, follower.ask())) for _ in range(4)], [11, 11, 3, 0])
        self.assert_state(follower, "want main 25", *range(1, 26))

    def test_texts_with_faults(self):
        follower = Follower(snapshot(3, 1))
        follower.take(feed(entry(6, [6])))
        for text in ("no", "want main 3", "entry main 0", " ", "= doc:4 view user:u", "Snapshot main 4"):
            self.assert_unchanged(follower, self.assert_bad_feed_taken, 1, "head is expected", text)
        for text in ("snapshot", "snapshot main", "snapshots main 4", "snapshot main 1001"):
            self.assert_unchanged(follower, self.assert_bad_feed_taken, 1, "head is expected", text)
        fault = (3, "line is not known")
        self.assert_unchanged(follower, self.assert_bad_feed_taken, *fault, feed(entry(4, [4])) + "\nno")
        self.assert_unchanged(follower, self.assert_bad_feed_taken, *fault, "snapshot main 4\n= doc:1 view user:u\nno")
        text = "entry other 4\n+ doc:1 view user:u\n- doc:1 view user:u"
        self.assert_unchanged(follower, self.assert_bad_feed_taken, 3, "grant is in both", text)
        text = "snapshot other 4\n= doc:2 view user:u\n= doc:1 view user:u"
        self.assert_unchanged(follower, self.assert_bad_feed_taken, 3, "order is wrong", text)

    def assert_bad_feed_taken(self, line, what, text, take):
        self.assert_bad_feed(line, what, take, text)

    def assert_refused_taken(self, what, text, take):
        self.assert_refused(what, -1, take, text)

    def test_entries_that_are_refused(self):
        follower = Follower(snapshot(3, 1))
        follower.take(feed(entry(6, [6])))
        for what, one in (
            ("entry of another store", entry(4, [4], store="other")), ("entry of another store", entry(2, store="other")),
            ("conflicting entry", entry(6)), ("entry is too far ahead", entry(44)), ("entry does not apply", entry(4, [1])),
        ):
            self.assert_unchanged(follower, self.assert_refused_taken, what, feed(one, entry(4, [4])))

    def test_entries_before_an_error_stay_received(self):
        for bad, what in (
            (entry(5, store="other"), "entry of another store"), (entry(8), "conflicting entry"),
            (entry(45), "entry is too far ahead"), (entry(5, [4]), "entry does not apply"),
        ):
            follower = Follower(snapshot(3, 1))
            text = feed(entry(8, [8]), entry(4, [4], [1]), entry(7, [7]), bad, entry(5, [5]), entry(9))
            self.assert_refused(what, -1, follower.take, text)
            self.assert_state(follower, "want main 4 without 7,8", 4)
            self.assertEqual(follower.take(feed(entry(5, [5]), entry(6))), 4)
            self.assert_state(follower, "want main 8", 4, 5, 7, 8)


class SnapshotTest(FollowerTest):
    def test_a_snapshot_of_a_greater_revision(self):
        follower = Follower(snapshot(3, 1, 2))
        self.assertEqual(follower.take(write_snapshot(snapshot(7, 2, 5))), 4)
        self.assert_state(follower, "want main 7", 2, 5)
        self.assertEqual(follower.take(write_snapshot(snapshot(8))), 1)
        self.assert_state(follower, "want main 8")

    def test_snapshots_of_the_same_and_of_a_lower_revision(self):
        follower = Follower(snapshot(3, 1, 2))
        follower.take(feed(entry(5)))
        for revision in (3, 2, 0):
            self.assertEqual(follower.take(write_snapshot(snapshot(revision, 7))), 0)
            self.assert_state(follower, "want main 3 without 5", 1, 2)

    def test_a_snapshot_of_another_store(self):
        follower = Follower(snapshot(3, 1, 2))
        follower.take(feed(entry(5)))
        for revision in (0, 3, 4, 9):
            before = self.state(follower)
            text = write_snapshot(snapshot(revision, 7, store="other"))
            self.assert_refused("snapshot of another store", -1, follower.take, text)
            self.assertEqual(self.state(follower), before)

    def waiting_follower(self, *entries):
        follower = Follower(snapshot(3, 1))
        self.assertEqual(follower.take(feed(*entries)), 0)
        return follower

    def test_entries_that_wait_and_fit(self):
        follower = self.waiting_follower(entry(6, [6]), entry(8, [8], [6]), entry(9, [9]), entry(11, [11]))
        self.assertEqual(follower.take(write_snapshot(snapshot(7, 6))), 6)
        self.assert_state(follower, "want main 9 without 11", 8, 9)
        self.assertEqual(follower.take(feed(entry(10))), 2)

    def test_entries_that_wait_behind_and_before_the_snapshot(self):
        follower = self.waiting_follower(entry(5, [1]), entry(7, [7]), entry(12, [12]))
        self.assertEqual(follower.take(write_snapshot(snapshot(7, 2))), 4)
        self.assert_state(follower, "want main 7 without 12", 2)
        self.assertEqual(follower.take(write_snapshot(snapshot(12, 3))), 5)
        self.assert_state(follower, "want main 12", 3)

    def test_entries_that_wait_and_do_not_fit_any_more(self):
        follower = self.waiting_follower(entry(6), entry(8, [8]))
        self.assert_refused("entry does not apply", -1, follower.take, write_snapshot(snapshot(7, 5, 8)))
        self.assert_state(follower, "want main 7", 5, 8)
        self.assertEqual(follower.take(feed(entry(8, [], [8]))), 1)

    def test_entries_before_and_behind_one_that_does_not_fit_any_more(self):
        follower = self.waiting_follower(entry(8, [8]), entry(9, [], [7]), entry(10, [10]), entry(12, [12]))
        self.assert_refused("entry does not apply", -1, follower.take, write_snapshot(snapshot(7, 5)))
        self.assert_state(follower, "want main 8 without 10,12", 5, 8)
        self.assertEqual(follower.take(feed(entry(9, [7]))), 2)
        self.assert_state(follower, "want main 10 without 12", 5, 7, 8, 10)

    def test_later_entries_are_not_too_far_ahead_of_the_snapshot(self):
        follower = self.waiting_follower(entry(43, [43]))
        self.assert_refused("entry is too far ahead", -1, follower.take, feed(entry(44)))
        follower.take(write_snapshot(snapshot(4)))
        self.assertEqual(follower.take(feed(entry(44, [44]))), 0)
        self.assertEqual(follower.ask(), "want main 4 without 43,44")

    def test_an_answer_from_behind_a_compaction(self):
        primary = primary_at(6)
        follower = Follower(snapshot(0))
        follower.take(feed(primary.entry(5)))
        primary.compact(4)
        self.assertEqual(follower.take(answer_to(primary, follower.ask())), 6)
        self.assert_state(follower, "want main 6", *range(1, 7))

    def test_followers_do_not_share_anything(self):
        follower = Follower(snapshot(0))
        other = copy.deepcopy(follower)
        entries = read_feed(feed(entry(1, [1])))
        follower.take(write_feed(entries))
        entries[0][2].clear()
        self.assertEqual((self.table(follower), self.table(other)), ([1], []))
