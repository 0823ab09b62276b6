"""Points 25, 26 and 27: replicas."""

import copy
import itertools
import unittest

from raising import RaisingTest

from authsync.replica import Replica


def grant(number):
    return (f"doc:{number}", "view", "user:u")


def grants(number):
    return sorted(grant(index) for index in range(number))


def entry(revision, gained=(), lost=(), store="main"):
    return (store, revision, sorted(grant(number) for number in gained), sorted(grant(number) for number in lost))


def state(replica):
    """All that can be seen of a replica, copied, so that it stays what it was."""
    return copy.deepcopy((replica.store_id(), replica.revision(), replica.waiting_entries(), replica.snapshot()))


class ReplicaTest(RaisingTest):
    def assert_refused_unchanged(self, replica, what, call, *values):
        before = state(replica)
        self.assert_refused(what, -1, call, *values)
        self.assertEqual(state(replica), before)


class FollowingTest(ReplicaTest):
    def test_it_begins_with_a_snapshot(self):
        replica = Replica(("main", 3, grants(2)))
        self.assertEqual((replica.store_id(), replica.revision()), ("main", 3))
        self.assertEqual((replica.waiting(), replica.waiting_entries()), ([], []))
        self.assertEqual(replica.snapshot(), ("main", 3, grants(2)))

    def test_the_next_entry_is_applied(self):
        replica = Replica(("main", 3, grants(2)))
        self.assertEqual(replica.receive(entry(4, [7, 5], [1])), 1)
        self.assertEqual(replica.snapshot(), ("main", 4, [grant(0), grant(5), grant(7)]))
        self.assertEqual(replica.receive(entry(5)), 1)
        self.assertEqual(replica.snapshot(), ("main", 5, [grant(0), grant(5), grant(7)]))

    def test_later_entries_wait(self):
        replica = Replica(("main", 0, []))
        self.assertEqual(replica.receive(entry(3, [3])), 0)
        self.assertEqual(replica.receive(entry(5, [5])), 0)
        self.assertEqual(replica.receive(entry(2, [2])), 0)
        self.assertEqual(replica.waiting(), [2, 3, 5])
        self.assertEqual(replica.waiting_entries(), [entry(2, [2]), entry(3, [3]), entry(5, [5])])
        self.assertEqual(replica.snapshot(), ("main", 0, []))
        self.assertEqual(replica.receive(entry(1, [1])), 3)
        self.assertEqual((replica.revision(), replica.waiting()), (3, [5]))
        self.assertEqual(replica.snapshot(), ("main", 3, [grant(1), grant(2), grant(3)]))
        self.assertEqual(replica.receive(entry(4)), 2)
        self.assertEqual((replica.revision(), replica.waiting()), (5, []))

    def test_entries_in_any_order_and_twice(self):
        feed = [entry(1, [1]), entry(2, [2], [1]), entry(3, [1], [2]), entry(4, [], [1])]
        for order in itertools.permutations(feed):
            replica = Replica(("main", 0, []))
            applied = [replica.receive(one) for one in order for _ in range(2)]
            self.assertEqual(sum(applied), 4)
            self.assertEqual((replica.snapshot(), replica.waiting()), (("main", 4, []), []))

    def test_what_is_ignored(self):
        replica = Replica(("main", 3, grants(2)))
        replica.receive(entry(5, [5]))
        before = state(replica)
        for one in (entry(3), entry(3, [9]), entry(1, [], [7]), entry(2, [0]), entry(5, [5])):
            self.assertEqual(replica.receive(one), 0)
            self.assertEqual(state(replica), before)

    def test_entries_of_another_store(self):
        replica = Replica(("main", 3, grants(2)))
        for revision in (1, 3, 4, 5, 44):
            one = entry(revision, [0], store="other")
            self.assert_refused_unchanged(replica, "entry of another store", replica.receive, one)

    def test_conflicting_entries(self):
        replica = Replica(("main", 3, grants(2)))
        replica.receive(entry(5, [5], [0]))
        for one in (entry(5), entry(5, [5]), entry(5, [], [0]), entry(5, [5, 6], [0]), entry(5, [0], [5])):
            self.assert_refused_unchanged(replica, "conflicting entry", replica.receive, one)
        self.assertEqual(replica.receive(entry(4)), 2)

    def test_entries_too_far_ahead(self):
        replica = Replica(("main", 3, grants(2)))
        self.assertEqual(replica.receive(entry(43)), 0)
        self.assert_refused_unchanged(replica, "entry is too far ahead", replica.receive, entry(44))
        self.assert_refused_unchanged(replica, "conflicting entry", replica.receive, entry(43, [9]))
        self.assertEqual(replica.receive(entry(4)), 1)
        self.assertEqual(replica.receive(entry(44)), 0)
        self.assert_refused_unchanged(replica, "entry is too far ahead", replica.receive, entry(45))
        self.assertEqual(replica.waiting(), [43, 44])

    def test_the_next_entry_must_apply(self):
        replica = Replica(("main", 3, grants(2)))
        for one in (entry(4, [0]), entry(4, [], [2]), entry(4, [5, 1], [0]), entry(4, [5], [0, 2])):
            self.assert_refused_unchanged(replica, "entry does not apply", replica.receive, one)
        self.assertEqual(replica.receive(entry(4, [2], [0])), 1)

    def test_an_entry_that_waits_and_does_not_fit_when_its_turn_comes(self):
        replica = Replica(("main", 3, grants(2)))
        for one in (entry(5, [1]), entry(6, [6]), entry(7, [7])):
            self.assertEqual(replica.receive(one), 0)
        self.assertEqual(replica.receive(entry(4, [2])), 1)
        self.assertEqual((replica.revision(), replica.waiting()), (4, [6, 7]))
        self.assert_refused_unchanged(replica, "entry does not apply", replica.receive, entry(5, [1]))
        self.assertEqual(replica.receive(entry(5, [5])), 3)
        self.assertEqual(replica.snapshot(), ("main", 7, sorted(grant(number) for number in (0, 1, 2, 5, 6, 7))))

    def test_tables_of_12800_grants(self):
        replica = Replica(("main", 0, grants(12799)))
        self.assert_refused_unchanged(replica, "entry does not apply", replica.receive, entry(1, [20000, 20001]))
        self.assertEqual(replica.receive(entry(1, [20000])), 1)
        self.assert_refused_unchanged(replica, "entry does not apply", replica.receive, entry(2, [20001]))
        self.assertEqual(replica.receive(entry(3, [20002])), 0)
        self.assertEqual(replica.receive(entry(2, [20001], [5])), 1)
        self.assertEqual((replica.revision(), replica.waiting()), (2, []))
        self.assertEqual(len(replica.snapshot()[2]), 12800)
        self.assertEqual(replica.receive(entry(3, [], [7])), 1)

    def test_a_snapshot_can_be_larger(self):
        replica = Replica(("main", 0, grants(12802)))
        self.assert_refused_unchanged(replica, "entry does not apply", replica.receive, entry(1, [], [5]))
        self.assertEqual(replica.receive(entry(1, [], [5, 6])), 1)


class AnsweringTest(ReplicaTest):
    def test_answers(self):
        replica = Replica(("main", 3, grants(2)))
        self.assertEqual(replica.check("doc:1", "view", "user:u", ""), (True, "main@3"))
        self.assertEqual(replica.check("doc:2", "view", "user:u", ""), (False, "main@3"))
        self.assertEqual(replica.check("no:x", "nothing", "no:y", ""), (False, "main@3"))
        replica.receive(entry(4, [2], [1]))
        replica.receive(entry(6, [1]))
        self.assertEqual(replica.check("doc:1", "view", "user:u", ""), (False, "main@4"))
        self.assertEqual(replica.check("doc:2", "view", "user:u", ""), (True, "main@4"))

    def test_demands(self):
        replica = Replica(("main", 3, grants(2)))
        for at_least in ("main@0", "main@2", "main@3"):
            self.assertEqual(replica.check("doc:1", "view", "user:u", at_least), (True, "main@3"))
        for at_least in ("main@4", "main@1000"):
            self.assert_refused("replica is behind", -1, replica.check, "doc:1", "view", "user:u", at_least)
        for at_least in ("other@0", "other@3", "other@4"):
            self.assert_refused("token of another store", -1, replica.check, "doc:1", "view", "user:u", at_least)
        replica.receive(entry(4))
        self.assertEqual(replica.check("doc:1", "view", "user:u", "main@4"), (True, "main@4"))


class OwnershipTest(unittest.TestCase):
    def test_later_changes_have_no_effect(self):
        given = grants(2)
        replica = Replica(("main", 3, given))
        one, two = entry(4, [4], [0]), entry(6, [6], [4])
        replica.receive(one)
        replica.receive(two)
        before = state(replica)
        for part in (
            given, one[2], one[3], two[2], two[3], replica.waiting(), replica.waiting_entries(),
            replica.waiting_entries()[0][2], replica.waiting_entries()[0][3], replica.snapshot()[2],
        ):
            part.clear()
        self.assertEqual(state(replica), before)
        self.assertEqual(replica.waiting_entries(), [entry(6, [6], [4])])
        self.assertEqual(replica.receive(entry(5)), 2)

    def test_later_changes_of_the_snapshot_have_no_effect(self):
        given = grants(2)
        replica = Replica(("main", 3, given))
        given.append(grant(2))
        replica.snapshot()[2].append(grant(3))
        self.assertEqual(replica.snapshot(), ("main", 3, grants(2)))
        self.assertEqual(replica.check(*grant(2), ""), (False, "main@3"))

    def test_what_is_passed_is_not_modified(self):
        given, one = grants(2), entry(4, [4], [0])
        replica = Replica(("main", 3, given))
        replica.receive(one)
        self.assertEqual((given, one), (grants(2), entry(4, [4], [0])))
