"""Points 34 and 35: audits of logs."""

import copy
import itertools
import random

from raising import RaisingTest

from authsync.audits import audit
from authsync.changes import apply_change


def grant(number):
    return (f"doc:{number}", "view", "user:u")


def snapshot(revision, *numbers):
    return ("main", revision, [grant(number) for number in numbers])


def entry(revision, gained=(), lost=(), store="main"):
    return (store, revision, [grant(number) for number in gained], [grant(number) for number in lost])


def line(client, number, allowed, after, before):
    return (client, *grant(number), allowed, after, before)


# Grant 1 is held at the revisions 3, 4 and 7; grant 2 from 4 to 6; grant 3 always.
FEED = [entry(4, [2]), entry(5, [], [1]), entry(6), entry(7, [1], [2])]
FIRST = snapshot(3, 1, 3)


def least_revisions(tables, first, log):
    """The least revisions by trying all, or the least index that cannot be reached, by point 35 word by word."""
    for size in range(1, len(log) + 1):
        if not explanations(tables, first, log[:size]):
            return (False, size - 1)
    found = explanations(tables, first, log)
    return (True, [min(one[place] for one in found) for place in range(len(log))])


def explanations(tables, first, log):
    revisions = range(first, first + len(tables))
    return [chosen for chosen in itertools.product(revisions, repeat=len(log)) if explains(tables, first, log, chosen)]


def explains(tables, first, log, chosen):
    last = {}
    for (client, target, name, subject, allowed, after, before), revision in zip(log, chosen):
        if not after <= revision <= before or ((target, name, subject) in tables[revision - first]) != allowed:
            return False
        if revision < last.get(client, 0):
            return False
        last[client] = revision
    return True


class ExplainingTest(RaisingTest):
    def assert_explained(self, revisions, *log):
        self.assertEqual(audit(FIRST, FEED, list(log)), (True, revisions))

    def assert_not_explained(self, index, *log):
        self.assertEqual(audit(FIRST, FEED, list(log)), (False, index))

    def test_no_lines(self):
        self.assert_explained([])
        self.assertEqual(audit(FIRST, [], []), (True, []))

    def test_the_least_revision_of_a_line(self):
        self.assert_explained([3], line("c", 1, True, 0, 1000))
        self.assert_explained([5], line("c", 1, False, 0, 1000))
        self.assert_explained([7], line("c", 1, True, 5, 1000))
        self.assert_explained([4], line("c", 2, True, 0, 4))
        self.assert_explained([7], line("c", 2, False, 4, 7))
        self.assert_explained([6], line("c", 3, True, 6, 6))
        self.assert_explained([3], line("c", 9, False, 3, 3))

    def test_lines_that_cannot_be_explained(self):
        self.assert_not_explained(0, line("c", 1, True, 5, 6))
        self.assert_not_explained(0, line("c", 1, False, 0, 4))
        self.assert_not_explained(0, line("c", 2, True, 7, 1000))
        self.assert_not_explained(0, line("c", 3, False, 0, 1000))
        self.assert_not_explained(0, line("c", 9, True, 0, 1000))

    def test_revisions_that_are_not_known(self):
        self.assert_not_explained(0, line("c", 3, True, 0, 2))
        self.assert_not_explained(0, line("c", 3, True, 8, 1000))
        self.assert_explained([3], line("c", 3, True, 0, 3))
        self.assert_explained([7], line("c", 3, True, 7, 1000))

    def test_before_less_than_after(self):
        self.assert_not_explained(0, line("c", 3, True, 5, 4))
        self.assert_explained([5], line("c", 3, True, 5, 5))

    def test_the_revisions_of_a_client_do_not_decrease(self):
        self.assert_explained([5, 5], line("c", 1, False, 0, 9), line("c", 3, True, 0, 9))
        self.assert_explained([5, 7], line("c", 1, False, 0, 9), line("c", 1, True, 0, 9))
        self.assert_explained([6, 6, 7], line("c", 3, True, 6, 9), line("c", 2, True, 0, 9), line("c", 2, False, 0, 9))
        self.assert_not_explained(1, line("c", 1, False, 0, 9), line("c", 1, True, 0, 6))
        self.assert_not_explained(2, line("c", 1, False, 0, 9), line("c", 1, True, 0, 9), line("c", 1, False, 0, 9))

    def test_several_clients_do_not_concern_one_another(self):
        self.assert_explained(
            [5, 3, 7, 4, 7],
            line("c", 1, False, 0, 9), line("d", 1, True, 0, 9), line("c", 1, True, 0, 9), line("d", 2, True, 0, 9),
            line("c", 3, True, 0, 9),
        )
        log = [line("c", 3, True, 7, 9), line("d", 3, True, 0, 9), line("c", 2, True, 0, 9), line("d", 2, True, 0, 9)]
        self.assert_not_explained(2, *log)
        self.assert_explained([7, 3, 4], log[0], log[1], log[3])

    def test_the_least_index(self):
        good, bad = line("c", 3, True, 0, 9), line("d", 3, False, 0, 9)
        self.assert_not_explained(0, bad, good, bad)
        self.assert_not_explained(2, good, good, bad, bad, good)

    def test_without_entries(self):
        self.assertEqual(audit(FIRST, [], [line("c", 1, True, 0, 9), line("c", 2, False, 3, 3)]), (True, [3, 3]))
        self.assertEqual(audit(FIRST, [], [line("c", 1, True, 4, 9)]), (False, 0))

    def test_another_name_and_another_subject(self):
        for question in (("doc:1", "edit", "user:u"), ("doc:1", "view", "user:v")):
            self.assertEqual(audit(FIRST, FEED, [("c", *question, False, 0, 3)]), (True, [3]))
            self.assertEqual(audit(FIRST, FEED, [("c", *question, True, 0, 9)]), (False, 0))

    def test_arguments_are_not_modified(self):
        values = (FIRST, FEED, [line("c", 1, False, 0, 9), line("c", 1, True, 0, 9)])
        given = copy.deepcopy(values)
        audit(*given)
        self.assertEqual(given, values)


class FeedTest(RaisingTest):
    def assert_fault(self, what, index, *entries):
        bad = line("c", 3, False, 0, 9)
        self.assert_refused(what, index, audit, FIRST, list(entries), [])
        self.assert_refused(what, index, audit, FIRST, list(entries), [bad])

    def test_entries_of_another_store(self):
        self.assert_fault("entry of another store", 0, entry(4, [2], store="other"))
        self.assert_fault("entry of another store", 1, FEED[0], entry(5, [], [1], store="other"), FEED[2])

    def test_entries_that_do_not_follow(self):
        for revision in (1, 3, 5, 44):
            self.assert_fault("entry is not the next one", 0, entry(revision, [2]))
        self.assert_fault("entry is not the next one", 1, FEED[0], FEED[0])
        self.assert_fault("entry is not the next one", 2, FEED[0], FEED[1], FEED[3])

    def test_entries_that_do_not_apply(self):
        self.assert_fault("entry does not apply", 0, entry(4, [1]))
        self.assert_fault("entry does not apply", 0, entry(4, [], [2]))
        self.assert_fault("entry does not apply", 1, FEED[0], entry(5, [2]))
        self.assert_fault("entry does not apply", 2, FEED[0], FEED[1], entry(6, [4], [1]))
        self.assert_fault("entry does not apply", 3, *FEED[:3], entry(7, [1, 3], [2]))
        self.assert_fault("entry does not apply", 3, *FEED[:3], entry(7, [1], [2, 5]))

    def test_the_first_fault_is_told(self):
        self.assert_fault("entry of another store", 0, entry(9, [1], store="other"), entry(4, [1]))
        self.assert_fault("entry is not the next one", 0, entry(9, [1]), entry(4, [2], store="other"))
        self.assert_fault("entry does not apply", 1, FEED[0], entry(5, [2]), entry(5, store="other"))


class AnyLogTest(RaisingTest):
    def history(self, rng):
        first = rng.randint(0, 3)
        grants = sorted(grant(number) for number in range(3) if rng.random() < 0.5)
        tables, entries = [grants], []
        for revision in range(first + 1, first + 4):
            turned = [grant(number) for number in range(3) if rng.random() < 0.4]
            gained = [one for one in turned if one not in tables[-1]]
            lost = [one for one in turned if one in tables[-1]]
            entries.append(("main", revision, gained, lost))
            tables.append(apply_change(tables[-1], (gained, lost)))
        return ("main", first, grants), entries, tables

    def test_any_log(self):
        rng = random.Random(35)
        seen = set()
        for _ in range(900):
            first, entries, tables = self.history(rng)
            log = []
            for _ in range(rng.randint(1, 4)):
                after = rng.randint(0, 4)
                client, number, allowed = rng.choice("cd"), rng.randrange(3), rng.random() < 0.5
                log.append(line(client, number, allowed, after, after + rng.randint(-1, 5)))
            wanted = least_revisions(tables, first[1], log)
            self.assertEqual(audit(first, entries, log), wanted)
            seen.add((wanted[0], len(log)))
        self.assertEqual(len(seen), 8)
