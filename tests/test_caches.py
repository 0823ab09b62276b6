"""Points 28 to 31: caches."""

import copy
import random

from raising import RaisingTest

from authsync.caches import Cache
from authsync.links import Follower
from authsync.replica import Replica


def question(number):
    return (f"doc:{number}", "view", "user:u")


def answer(revision, allowed=True, store="main"):
    return (allowed, f"{store}@{revision}")


def entry(revision, gained=(), lost=(), store="main"):
    return (store, revision, [question(number) for number in gained], [question(number) for number in lost])


class CacheTest(RaisingTest):
    def state(self, cache):
        """All that can be seen of a cache, by a copy that is asked in its place."""
        seen = copy.deepcopy(cache)
        questions = seen.questions()
        return (seen.store_id(), seen.revision(), seen.size(), questions, [seen.lookup(*one, "") for one in questions])

    def assert_refused_unchanged(self, cache, what, call, *values):
        before = self.state(cache)
        self.assert_refused(what, -1, call, *values)
        self.assertEqual(self.state(cache), before)

    def cache(self, revision, capacity, *numbers):
        """A cache with answers of its revision for some questions."""
        cache = Cache("main", revision, capacity)
        for number in numbers:
            self.assertIsNone(cache.store(*question(number), answer(revision)))
        return cache

    def assert_known(self, cache, number, allowed, revision):
        """Assert what is kept for a question, without using it."""
        self.assertEqual(copy.deepcopy(cache).lookup(*question(number), ""), answer(revision, allowed))

    def assert_order(self, cache, *numbers):
        self.assertEqual(cache.questions(), [question(number) for number in numbers])
        self.assertEqual(cache.size(), len(numbers))


class StoringTest(CacheTest):
    def test_a_cache_without_entries(self):
        cache = Cache("main", 7, 3)
        self.assertEqual((cache.store_id(), cache.revision(), cache.size(), cache.questions()), ("main", 7, 0, []))
        self.assertIsNone(cache.lookup(*question(1), ""))

    def test_answers_are_kept_and_shown(self):
        cache = self.cache(5, 4, 1)
        cache.store(*question(2), answer(3, False))
        cache.store(*question(3), answer(0))
        self.assertEqual(cache.lookup(*question(1), ""), (True, "main@5"))
        self.assertEqual(cache.lookup(*question(2), ""), (False, "main@3"))
        self.assertEqual(cache.lookup(*question(3), ""), (True, "main@0"))
        for other in (("doc:1", "edit", "user:u"), ("doc:1", "view", "user:v"), ("doc:9", "view", "user:u")):
            self.assertIsNone(cache.lookup(*other, ""))

    def test_a_full_cache_removes_what_was_used_first(self):
        cache = self.cache(5, 3, 1, 2, 3)
        self.assert_order(cache, 1, 2, 3)
        cache.store(*question(4), answer(1))
        self.assert_order(cache, 2, 3, 4)
        cache.store(*question(2), answer(5))
        self.assert_order(cache, 3, 4, 2)
        cache.store(*question(5), answer(5))
        self.assert_order(cache, 4, 2, 5)

    def test_the_capacity_1(self):
        cache = self.cache(5, 1, 1)
        cache.store(*question(1), answer(5))
        self.assert_order(cache, 1)
        cache.store(*question(2), answer(0, False))
        self.assert_order(cache, 2)
        self.assert_known(cache, 2, False, 0)
        self.assertIsNone(cache.lookup(*question(1), ""))

    def test_the_capacity_20(self):
        cache = self.cache(5, 20, *range(20))
        self.assert_order(cache, *range(20))
        cache.store(*question(20), answer(5))
        self.assert_order(cache, *range(1, 21))

    def test_an_answer_with_a_lower_revision(self):
        cache = self.cache(5, 3, 1, 2)
        cache.store(*question(1), answer(4, False))
        self.assert_known(cache, 1, True, 5)
        self.assert_order(cache, 2, 1)

    def test_an_answer_with_the_same_revision(self):
        cache = self.cache(5, 3, 1, 2)
        cache.store(*question(1), answer(5, False))
        self.assert_known(cache, 1, True, 5)
        self.assert_order(cache, 2, 1)

    def test_an_answer_with_a_greater_revision(self):
        cache = Cache("main", 5, 3)
        cache.store(*question(1), answer(3))
        cache.store(*question(2), answer(5))
        cache.store(*question(1), answer(4, False))
        self.assert_known(cache, 1, False, 4)
        self.assert_order(cache, 2, 1)

    def test_an_answer_that_is_known_does_not_remove_another_one(self):
        cache = self.cache(5, 2, 1, 2)
        cache.store(*question(1), answer(2))
        self.assert_order(cache, 2, 1)
        cache.apply(entry(6, [1]))
        cache.store(*question(2), answer(6))
        self.assert_order(cache, 1, 2)

    def test_errors(self):
        cache = self.cache(5, 3, 1, 2)
        for store, what in (("other", "token of another store"), ("main", "answer is too new")):
            for number in (1, 3):
                wrong = answer(6, store=store)
                self.assert_refused_unchanged(cache, what, cache.store, *question(number), wrong)
        for token in ("other@0", "other@5", "mai@5", "main2@5"):
            wrong = (True, token)
            self.assert_refused_unchanged(cache, "token of another store", cache.store, *question(1), wrong)
        self.assert_refused_unchanged(cache, "answer is too new", cache.store, *question(1), answer(1000))
        cache.apply(entry(6))
        self.assertIsNone(cache.store(*question(1), answer(6)))


class ApplyingTest(CacheTest):
    def test_the_next_revision(self):
        cache = self.cache(5, 4, 1, 2)
        self.assertIsNone(cache.apply(entry(6)))
        self.assertEqual(cache.revision(), 6)
        self.assert_known(cache, 1, True, 6)
        self.assert_known(cache, 2, True, 6)
        self.assertIsNone(cache.apply(entry(7, [9], [8])))
        self.assertEqual(cache.revision(), 7)
        self.assert_known(cache, 1, True, 7)

    def test_what_is_gained_and_lost(self):
        cache = Cache("main", 5, 9)
        for number in range(4):
            cache.store(*question(number), answer(5, number < 2))
        cache.apply(entry(6, [2], [0]))
        for number, allowed in enumerate([False, True, True, False]):
            self.assert_known(cache, number, allowed, 6)
        self.assertEqual(cache.size(), 4)

    def test_what_is_known_until_an_earlier_revision_only(self):
        cache = Cache("main", 5, 9)
        for number in range(3):
            cache.store(*question(number), answer(4, number != 1))
        cache.store(*question(3), answer(5, False))
        cache.apply(entry(6, [1], [2]))
        self.assert_known(cache, 0, True, 4)
        self.assert_known(cache, 1, True, 6)
        self.assert_known(cache, 2, False, 6)
        self.assert_known(cache, 3, False, 6)
        cache.apply(entry(7, [0]))
        self.assert_known(cache, 0, True, 7)
        cache.store(*question(4), answer(6))
        cache.apply(entry(8))
        self.assert_known(cache, 4, True, 6)
        self.assert_known(cache, 0, True, 8)

    def test_nothing_is_used(self):
        cache = self.cache(5, 3, 1, 2, 3)
        cache.apply(entry(6, [1], [2]))
        self.assert_order(cache, 1, 2, 3)
        cache.apply(entry(7, [2], [1, 3]))
        self.assert_order(cache, 1, 2, 3)

    def test_other_grants_of_the_same_object(self):
        cache = self.cache(5, 3, 1)
        cache.apply(("main", 6, [("doc:1", "view", "user:v")], [("doc:1", "edit", "user:u")]))
        self.assert_known(cache, 1, True, 6)
        self.assert_order(cache, 1)

    def test_errors(self):
        cache = self.cache(5, 3, 1, 2)
        for revision in (1, 5, 6, 7):
            wrong = entry(revision, [], [1], store="other")
            self.assert_refused_unchanged(cache, "entry of another store", cache.apply, wrong)
        for revision in (1, 4, 5, 7, 46):
            self.assert_refused_unchanged(cache, "not the next revision", cache.apply, entry(revision, [], [1]))

    def test_later_changes_and_arguments(self):
        cache = self.cache(5, 3, 1, 2)
        given = entry(6, [3], [1])
        cache.apply(given)
        self.assertEqual(given, entry(6, [3], [1]))
        before = self.state(cache)
        given[2].append(question(2))
        given[3].clear()
        cache.questions().clear()
        self.assertEqual(self.state(cache), before)


class LookingUpTest(CacheTest):
    def test_demands_that_are_just_met_and_just_not(self):
        cache = Cache("main", 5, 3)
        cache.store(*question(1), answer(3))
        for at_least in ("", "main@0", "main@2", "main@3"):
            self.assertEqual(cache.lookup(*question(1), at_least), (True, "main@3"))
        for at_least in ("main@4", "main@5", "main@6", "main@1000"):
            self.assertIsNone(cache.lookup(*question(1), at_least))

    def test_success_is_a_use_and_failure_is_none(self):
        cache = Cache("main", 5, 3)
        for number in (1, 2, 3):
            cache.store(*question(number), answer(number))
        self.assertIsNone(cache.lookup(*question(1), "main@2"))
        self.assertIsNone(cache.lookup(*question(9), ""))
        self.assert_order(cache, 1, 2, 3)
        self.assertEqual(cache.lookup(*question(1), "main@1"), answer(1))
        self.assert_order(cache, 2, 3, 1)
        self.assertIsNone(cache.lookup(*question(2), "main@3"))
        cache.store(*question(4), answer(5))
        self.assert_order(cache, 3, 1, 4)

    def test_tokens_of_another_store(self):
        cache = self.cache(5, 3, 1, 2)
        for at_least in ("other@0", "other@5", "other@6", "mai@5"):
            for number in (1, 9):
                self.assert_refused_unchanged(cache, "token of another store", cache.lookup, *question(number), at_least)


class CheckingTest(CacheTest):
    def reader(self, revision, *numbers, kind=Replica, store="main"):
        return kind((store, revision, sorted(question(number) for number in numbers)))

    def test_what_is_kept_comes_first(self):
        cache = self.cache(5, 3, 1, 2)
        reader = self.reader(9)
        self.assertEqual(cache.check(reader, *question(1), ""), (True, "main@5"))
        self.assertEqual(cache.check(reader, *question(1), "main@5"), (True, "main@5"))
        self.assert_order(cache, 2, 1)

    def test_the_answer_of_the_replica_is_kept(self):
        for kind in (Replica, Follower):
            for revision in (3, 5):
                cache = self.cache(5, 2, 1, 2)
                reader = self.reader(revision, 7, kind=kind)
                self.assertEqual(cache.check(reader, *question(7), ""), (True, f"main@{revision}"))
                self.assert_order(cache, 2, 7)
                self.assertEqual(cache.check(reader, *question(8), "main@3"), (False, f"main@{revision}"))
                self.assert_order(cache, 7, 8)
                self.assert_known(cache, 7, True, revision)
                self.assert_known(cache, 8, False, revision)

    def test_the_answer_of_a_newer_replica_is_not_kept(self):
        for kind in (Replica, Follower):
            cache = self.cache(5, 3, 1, 2)
            before = self.state(cache)
            reader = self.reader(6, 7, kind=kind)
            self.assertEqual(cache.check(reader, *question(7), ""), (True, "main@6"))
            self.assertEqual(cache.check(reader, *question(1), "main@6"), (False, "main@6"))
            self.assertEqual(self.state(cache), before)

    def test_what_is_kept_is_too_old(self):
        cache = Cache("main", 5, 3)
        cache.store(*question(1), answer(3))
        cache.store(*question(2), answer(3))
        self.assertEqual(cache.check(self.reader(4), *question(1), "main@4"), (False, "main@4"))
        self.assert_known(cache, 1, False, 4)
        self.assert_order(cache, 2, 1)

    def test_errors(self):
        cache = self.cache(5, 3, 1, 2)
        other = self.reader(5, store="other")
        for number, at_least in ((1, ""), (9, ""), (1, "other@5"), (1, "main@9")):
            values = (other, *question(number), at_least)
            self.assert_refused_unchanged(cache, "replica of another store", cache.check, *values)
        reader = self.reader(6)
        for number, at_least in ((1, "other@5"), (9, "other@0"), (9, "other@7")):
            values = (reader, *question(number), at_least)
            self.assert_refused_unchanged(cache, "token of another store", cache.check, *values)
        for number in (1, 9):
            values = (reader, *question(number), "main@7")
            self.assert_refused_unchanged(cache, "replica is behind", cache.check, *values)

    def test_a_replica_that_is_not_asked_can_be_behind(self):
        cache = self.cache(5, 3, 1)
        self.assertEqual(cache.check(self.reader(0), *question(1), "main@5"), (True, "main@5"))


class SlowCache:
    """Points 28 to 30 word by word, with the times of the uses."""

    def __init__(self, revision, capacity):
        self.revision = revision
        self.capacity = capacity
        self.time = 0
        self.rows = []

    def row(self, number):
        return next((row for row in self.rows if row["number"] == number), None)

    def use(self, row):
        self.time += 1
        row["used"] = self.time

    def store(self, number, allowed, revision):
        row = self.row(number)
        if row is None:
            row = {"number": number, "until": -1}
            self.rows.append(row)
        if row["until"] < revision:
            row.update(allowed=allowed, until=revision)
        self.use(row)
        if len(self.rows) > self.capacity:
            self.rows.remove(min(self.rows, key=lambda one: one["used"]))

    def apply(self, gained, lost):
        self.revision += 1
        for row in self.rows:
            if row["number"] in gained + lost:
                row.update(allowed=row["number"] in gained, until=self.revision)
            elif row["until"] == self.revision - 1:
                row["until"] = self.revision

    def lookup(self, number, least):
        row = self.row(number)
        if row is None or row["until"] < least:
            return None
        self.use(row)
        return answer(row["until"], row["allowed"])

    def order(self):
        return [row["number"] for row in sorted(self.rows, key=lambda one: one["used"])]


class AnyOrderTest(CacheTest):
    def step(self, rng, cache, slow):
        number = rng.randrange(7)
        chosen = rng.randrange(4)
        if chosen == 0:
            revision, allowed = rng.randint(max(0, slow.revision - 3), slow.revision), rng.random() < 0.5
            slow.store(number, allowed, revision)
            cache.store(*question(number), answer(revision, allowed))
        elif chosen == 1:
            numbers = rng.sample(range(7), rng.randrange(4))
            split = rng.randint(0, len(numbers))
            slow.apply(numbers[:split], numbers[split:])
            cache.apply(entry(slow.revision, sorted(numbers[:split]), sorted(numbers[split:])))
        else:
            least = rng.randint(max(0, slow.revision - 3), slow.revision)
            wanted = slow.lookup(number, least)
            self.assertEqual(cache.lookup(*question(number), f"main@{least}"), wanted)

    def test_any_calls(self):
        rng = random.Random(28)
        for _ in range(60):
            revision, capacity = rng.randint(0, 5), rng.randint(1, 5)
            cache, slow = Cache("main", revision, capacity), SlowCache(revision, capacity)
            for _ in range(60):
                self.step(rng, cache, slow)
                self.assertEqual(cache.revision(), slow.revision)
                self.assert_order(cache, *slow.order())
                for row in slow.rows:
                    self.assert_known(cache, row["number"], row["allowed"], row["until"])
