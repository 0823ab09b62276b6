"""Points 32 and 33: content stores."""

from raising import RaisingTest

from authsync.contents import ContentStore
from authsync.links import Follower
from authsync.primary import Primary
from authsync.replica import Replica

TEXT = "type user\ntype doc\nrelation owner: user\nrelation guest: user\npermission view = owner | guest"
OWNED = [("doc:a", "owner", "user:u"), ("doc:b", "owner", "user:u")]


class ContentsTest(RaisingTest):
    def setUp(self):
        self.primary = Primary("main", TEXT, OWNED)
        self.contents = ContentStore(self.primary)

    def readers(self):
        """A reader of each kind, all of the present revision."""
        snapshot = self.primary.snapshot("")
        return [self.primary, Replica(snapshot), Follower(snapshot)]

    def state(self):
        targets = ("doc:a", "doc:b")
        shown = [self.contents.read(self.primary, one, "view", "user:u") for one in targets if self.contents.version(one)]
        return (shown, [(self.contents.version(one), self.contents.token(one)) for one in targets])

    def assert_refused_unchanged(self, what, call, *values):
        before = self.state()
        self.assert_refused(what, -1, call, *values)
        self.assertEqual(self.state(), before)


class StoringTest(ContentsTest):
    def test_a_store_without_versions(self):
        self.assertEqual((self.contents.version("doc:a"), self.contents.token("doc:a")), (0, ""))

    def test_versions_are_numbered_for_each_object(self):
        self.assertEqual(self.contents.put("doc:a", "one"), (1, "main@0"))
        self.assertEqual(self.contents.put("doc:b", "other"), (1, "main@0"))
        self.primary.write([("create", "doc:a", "guest", "user:v")])
        self.assertEqual(self.contents.put("doc:a", "two"), (2, "main@1"))
        self.assertEqual((self.contents.version("doc:a"), self.contents.token("doc:a")), (2, "main@1"))
        self.assertEqual((self.contents.version("doc:b"), self.contents.token("doc:b")), (1, "main@0"))
        self.assertEqual((self.contents.version("doc:c"), self.contents.token("doc:c")), (0, ""))

    def test_the_token_stays_that_of_the_storing(self):
        self.contents.put("doc:a", "one")
        self.primary.write([("create", "doc:a", "guest", "user:v")])
        self.assertEqual(self.contents.token("doc:a"), "main@0")

    def test_an_object_that_the_schema_does_not_know(self):
        self.assertEqual(self.contents.put("page:x", ""), (1, "main@0"))
        reader = Replica(self.primary.snapshot(""))
        self.assertIsNone(self.contents.read(reader, "page:x", "view", "user:u"))

    def test_30_and_31_versions(self):
        for number in range(29):
            self.contents.put("doc:b" if number % 3 else "doc:a", f"text {number}")
        self.assertEqual((self.contents.version("doc:a"), self.contents.version("doc:b")), (10, 19))
        self.assertEqual(self.contents.put("doc:a", "last"), (11, "main@0"))
        for target in ("doc:a", "doc:b", "doc:c"):
            self.assert_refused_unchanged("too many versions", self.contents.put, target, "one more")
        self.assertEqual(self.contents.version("doc:c"), 0)
        self.assertEqual(self.contents.read(self.primary, "doc:a", "view", "user:u"), ("last", 11, "main@0"))

    def test_30_versions_of_one_object(self):
        for number in range(30):
            self.assertEqual(self.contents.put("doc:a", ""), (number + 1, "main@0"))
        self.assert_refused_unchanged("too many versions", self.contents.put, "doc:a", "")


class ReadingTest(ContentsTest):
    def test_the_newest_version_is_shown(self):
        self.contents.put("doc:a", "one")
        self.contents.put("doc:b", "other")
        self.primary.write([("create", "doc:a", "guest", "user:v")])
        self.contents.put("doc:a", "two\nlines")
        for reader in self.readers():
            for subject in ("user:u", "user:v"):
                shown = self.contents.read(reader, "doc:a", "view", subject)
                self.assertEqual(shown, ("two\nlines", 2, "main@1"))
            self.assertEqual(self.contents.read(reader, "doc:b", "owner", "user:u"), ("other", 1, "main@1"))

    def test_an_empty_text(self):
        self.contents.put("doc:a", "")
        self.assertEqual(self.contents.read(self.primary, "doc:a", "view", "user:u"), ("", 1, "main@0"))

    def test_nothing_is_shown_to_others(self):
        self.contents.put("doc:a", "one")
        for reader in self.readers():
            self.assertIsNone(self.contents.read(reader, "doc:a", "view", "user:w"))
            self.assertIsNone(self.contents.read(reader, "doc:a", "guest", "user:u"))

    def test_the_token_of_the_answer_can_be_newer(self):
        self.contents.put("doc:a", "one")
        self.primary.write([("create", "doc:a", "guest", "user:v")])
        for reader in self.readers():
            self.assertEqual(self.contents.read(reader, "doc:a", "view", "user:v"), ("one", 1, "main@1"))

    def test_a_reader_that_is_behind(self):
        behind = self.readers()[1:]
        self.contents.put("doc:b", "other")
        self.primary.write([("delete", "doc:a", "owner", "user:u")])
        self.contents.put("doc:a", "secret")
        for reader in behind:
            for subject in ("user:u", "user:v"):
                self.assert_refused_unchanged("replica is behind", self.contents.read, reader, "doc:a", "view", subject)
            self.assertEqual(self.contents.read(reader, "doc:b", "view", "user:u"), ("other", 1, "main@0"))
        for reader in self.readers():
            self.assertIsNone(self.contents.read(reader, "doc:a", "view", "user:u"))

    def test_a_reader_that_is_just_there(self):
        self.primary.write([("create", "doc:a", "guest", "user:v")])
        there = self.readers()[1:]
        self.contents.put("doc:a", "one")
        self.primary.write([("delete", "doc:a", "guest", "user:v")])
        for reader in there:
            self.assertEqual(self.contents.read(reader, "doc:a", "view", "user:v"), ("one", 1, "main@1"))
        self.assertIsNone(self.contents.read(self.primary, "doc:a", "view", "user:v"))

    def test_a_primary_behind_a_compaction(self):
        self.contents.put("doc:a", "one")
        self.primary.write([("create", "doc:a", "guest", "user:v")])
        self.primary.write([("create", "doc:b", "guest", "user:v")])
        self.primary.compact(2)
        self.assertEqual(self.contents.read(self.primary, "doc:a", "view", "user:v"), ("one", 1, "main@2"))

    def test_a_question_that_the_schema_does_not_have(self):
        self.contents.put("doc:a", "one")
        self.contents.put("page:x", "page")
        read = self.contents.read
        self.assert_refused_unchanged("unknown name", read, self.primary, "doc:a", "edit", "user:u")
        self.assert_refused_unchanged("unknown type", read, self.primary, "doc:a", "edit", "group:g")
        self.assert_refused_unchanged("unknown type", read, self.primary, "page:x", "view", "user:u")

    def test_a_reader_of_another_store(self):
        self.contents.put("doc:a", "one")
        other = Primary("other", TEXT, OWNED)
        for reader in (other, Replica(other.snapshot("")), Follower(other.snapshot(""))):
            for target in ("doc:a", "doc:c", "page:x"):
                self.assert_refused_unchanged("reader of another store", self.contents.read, reader, target, "no", "x:y")

    def test_no_content(self):
        self.contents.put("doc:a", "one")
        for reader in self.readers():
            for target, name in (("doc:b", "view"), ("doc:b", "no"), ("page:x", "no")):
                self.assert_refused_unchanged("no content", self.contents.read, reader, target, name, "user:u")
