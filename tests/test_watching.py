"""Point 50: watches."""

import copy
import random

from model import random_schema, random_updates
from raising import RaisingTest

from authsync.names import split_token
from authsync.primary import Primary
from authsync.schema import schema_text
from authsync.watching import Watch

NAME, SUBJECT = "view", "user:u"


def grants(letters, name=NAME, subject=SUBJECT):
    return [(f"doc:{letter}", name, subject) for letter in letters]


def docs(letters):
    return [f"doc:{letter}" for letter in letters]


def entry(revision, gained="", lost="", store="main"):
    return (store, revision, grants(gained), grants(lost))


class WatchTest(RaisingTest):
    def watch(self, letters="", revision=3, others=()):
        return Watch(("main", revision, sorted([*grants(letters), *others])), NAME, SUBJECT)

    def assert_watch(self, watch, revision, letters):
        self.assertEqual((watch.revision(), watch.token(), watch.objects()), (revision, f"main@{revision}", docs(letters)))

    def assert_refused_unchanged(self, what, watch, one):
        before = (watch.revision(), watch.token(), watch.objects())
        given = copy.deepcopy(one)
        self.assert_refused(what, -1, watch.advance, one)
        self.assertEqual((watch.revision(), watch.token(), watch.objects()), before)
        self.assertEqual(one, given)

    def test_it_begins_with_a_snapshot(self):
        self.assert_watch(self.watch("ab"), 3, "ab")
        self.assert_watch(self.watch("", 0), 0, "")
        self.assertEqual(Watch(("other", 7, []), NAME, SUBJECT).token(), "other@7")

    def test_other_names_and_subjects_are_not_its_own(self):
        others = grants("cd", name="edit") + grants("ce", subject="user:v") + grants("f", "edit", "user:v")
        self.assert_watch(self.watch("ab", 3, others), 3, "ab")
        self.assert_watch(self.watch("", 3, others), 3, "")

    def test_it_gains_and_loses_objects(self):
        watch = self.watch("bd")
        self.assertEqual(watch.advance(entry(4, "ac")), (docs("ac"), []))
        self.assert_watch(watch, 4, "abcd")
        self.assertEqual(watch.advance(entry(5, "", "bd")), ([], docs("bd")))
        self.assert_watch(watch, 5, "ac")
        self.assertEqual(watch.advance(entry(6, "bd", "c")), (docs("bd"), docs("c")))
        self.assert_watch(watch, 6, "abd")
        self.assertEqual(watch.advance(entry(7, "", "abd")), ([], docs("abd")))
        self.assert_watch(watch, 7, "")

    def test_objects_of_several_types(self):
        watch = Watch(("main", 0, [("page:a", NAME, SUBJECT)]), NAME, SUBJECT)
        gained = [("doc:z", NAME, SUBJECT), ("zoo:a", NAME, SUBJECT)]
        self.assertEqual(watch.advance(("main", 1, gained, [])), (["doc:z", "zoo:a"], []))
        self.assertEqual(watch.objects(), ["doc:z", "page:a", "zoo:a"])

    def test_entries_without_a_change(self):
        watch = self.watch("a")
        self.assertEqual(watch.advance(entry(4)), ([], []))
        self.assert_watch(watch, 4, "a")

    def test_entries_of_another_name_and_another_subject(self):
        watch = self.watch("a")
        gained = grants("c", name="edit") + grants("b", name="view", subject="user:v")
        lost = grants("a", name="edit") + grants("a", subject="group:u")
        self.assertEqual(watch.advance(("main", 4, sorted(gained), sorted(lost))), ([], []))
        self.assert_watch(watch, 4, "a")
        mixed = sorted(gained + grants("de")), sorted(lost + grants("a"))
        self.assertEqual(watch.advance(("main", 5, *mixed)), (docs("de"), docs("a")))
        self.assert_watch(watch, 5, "de")

    def test_entries_of_another_store(self):
        watch = self.watch("a")
        for revision in (2, 3, 4, 5):
            self.assert_refused_unchanged("entry of another store", watch, entry(revision, "b", "a", "other"))

    def test_the_same_an_earlier_and_a_too_late_revision(self):
        watch = self.watch("a")
        for revision in (1, 2, 3, 5, 6, 1000):
            self.assert_refused_unchanged("not the next revision", watch, entry(revision, "b", "a"))
        self.assertEqual(watch.advance(entry(4, "b", "a")), (docs("b"), docs("a")))
        self.assert_refused_unchanged("not the next revision", watch, entry(4, "b", "a"))

    def test_lists_that_were_told_and_passed_have_no_effect(self):
        snapshot = ("main", 3, grants("ab"))
        watch = Watch(snapshot, NAME, SUBJECT)
        snapshot[2].clear()
        watch.objects().clear()
        self.assert_watch(watch, 3, "ab")
        one = entry(4, "c", "b")
        gained, lost = watch.advance(one)
        self.assertEqual(one, entry(4, "c", "b"))
        gained.clear()
        lost.append("doc:a")
        one[2].clear()
        one[3].extend(grants("a"))
        self.assert_watch(watch, 4, "ac")

    def test_any_feed(self):
        rng = random.Random(50)
        moves = 0
        for _ in range(30):
            schema = random_schema(rng)
            primary = Primary("main", schema_text(schema))
            for _ in range(10):
                primary.write(random_updates(rng, schema, set(primary.relationships(""))))
            first = rng.randint(0, 4)
            asked = sorted({grant[1:] for grant in primary.grants("main@5")})
            for name, subject in rng.sample(asked, min(4, len(asked))):
                watch = Watch(primary.snapshot(f"main@{first}"), name, subject)
                for revision in range(first + 1, 11):
                    before = watch.objects()
                    gained, lost = watch.advance(primary.entry(revision))
                    table = primary.grants(watch.token())
                    self.assertEqual(split_token(watch.token()), ("main", revision))
                    self.assertEqual(watch.objects(), [o for o, n, s in table if (n, s) == (name, subject)])
                    self.assertEqual(gained, [one for one in watch.objects() if one not in before])
                    self.assertEqual(lost, [one for one in before if one not in watch.objects()])
                    moves += len(gained) + len(lost)
        self.assertGreater(moves, 100)
