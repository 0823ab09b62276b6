"""Point 49: lists in pages."""

import copy
import random

from model import random_relationships, random_schema
from raising import RaisingTest

from authsync.listing import first_page, next_page
from authsync.primary import Primary
from authsync.schema import schema_text
from authsync.tables import evaluate

TEXT = "type user\ntype group\ntype doc\nrelation view: user, group\nrelation edit: user"
OBJECTS = ("objects", "doc", "view", "user:u")
SUBJECTS = ("subjects", "doc:a", "view", "user")
CURSOR = "main@1 objects doc view user:u doc:b"


def views(*letters, subject="user:u"):
    return [(f"doc:{letter}", "view", subject) for letter in letters]


def docs(letters):
    return [f"doc:{letter}" for letter in letters]


class ListingTest(RaisingTest):
    def setUp(self):
        rows = views(*"dbca") + views("b", "x", subject="user:v") + views("a", subject="group:u")
        self.primary = Primary("main", TEXT, rows + [("doc:e", "edit", "user:u")])

    def pages(self, question, size):
        """The pages of a list until there is no cursor any more."""
        pages = [first_page(self.primary, question, size)]
        while pages[-1][1]:
            pages.append(next_page(self.primary, pages[-1][1], size))
        return pages

    def state(self):
        primary = self.primary
        return (primary.token(), primary.oldest(), primary.grants(""), primary.relationships(""))

    def assert_refused_unchanged(self, what, call, *values):
        before = self.state()
        self.assert_refused(what, -1, call, *values)
        self.assertEqual(self.state(), before)


class PagesTest(ListingTest):
    def test_objects(self):
        self.assertEqual(first_page(self.primary, OBJECTS, 100), (docs("abcd"), ""))
        self.assertEqual(first_page(self.primary, ("objects", "doc", "view", "user:v"), 100), (docs("bx"), ""))
        self.assertEqual(first_page(self.primary, ("objects", "doc", "edit", "user:u"), 100), (docs("e"), ""))
        self.assertEqual(first_page(self.primary, ("objects", "doc", "view", "group:u"), 100), (docs("a"), ""))

    def test_subjects(self):
        self.assertEqual(first_page(self.primary, SUBJECTS, 100), (["user:u"], ""))
        found = first_page(self.primary, ("subjects", "doc:b", "view", "user"), 100)
        self.assertEqual(found, (["user:u", "user:v"], ""))
        self.assertEqual(first_page(self.primary, ("subjects", "doc:a", "view", "group"), 100), (["group:u"], ""))
        self.assertEqual(first_page(self.primary, ("subjects", "doc:e", "edit", "user"), 100), (["user:u"], ""))

    def test_pages_of_size_1(self):
        head = "main@0 objects doc view user:u"
        self.assertEqual(self.pages(OBJECTS, 1), [
            (["doc:a"], f"{head} doc:a"), (["doc:b"], f"{head} doc:b"), (["doc:c"], f"{head} doc:c"), (["doc:d"], ""),
        ])
        self.assertEqual(self.pages(("subjects", "doc:b", "view", "user"), 1), [
            (["user:u"], "main@0 subjects doc:b view user user:u"), (["user:v"], ""),
        ])

    def test_the_last_page_with_and_without_a_full_size(self):
        head = "main@0 objects doc view user:u"
        self.assertEqual(self.pages(OBJECTS, 2), [(docs("ab"), f"{head} doc:b"), (docs("cd"), "")])
        self.assertEqual(self.pages(OBJECTS, 3), [(docs("abc"), f"{head} doc:c"), (docs("d"), "")])
        for size in (4, 5, 100):
            self.assertEqual(self.pages(OBJECTS, size), [(docs("abcd"), "")])

    def test_pages_of_another_size_each(self):
        items, cursor = first_page(self.primary, OBJECTS, 1)
        self.assertEqual((items, next_page(self.primary, cursor, 3)), (docs("a"), (docs("bcd"), "")))

    def test_an_empty_list(self):
        for size in (1, 100):
            self.assertEqual(first_page(self.primary, ("objects", "doc", "edit", "user:v"), size), ([], ""))
            self.assertEqual(first_page(self.primary, ("subjects", "doc:z", "view", "user"), size), ([], ""))

    def test_what_does_not_exist_has_no_items(self):
        for question in (
            ("objects", "page", "view", "user:u"), ("objects", "doc", "own", "user:u"), ("objects", "user", "view", "user:u"),
            ("objects", "doc", "view", "page:u"), ("subjects", "page:a", "view", "user"), ("subjects", "doc:a", "own", "user"),
            ("subjects", "doc:a", "view", "page"), ("objects", "objects", "objects", "subjects:objects"),
        ):
            self.assertEqual(first_page(self.primary, question, 10), ([], ""))
            kind = question[1] if question[0] == "objects" else question[3]
            cursor = " ".join(["main@0", *question, f"{kind}:a"])
            self.assertEqual(next_page(self.primary, cursor, 10), ([], ""))

    def test_many_subjects_by_a_group(self):
        text = "type user\ntype group\nrelation member: user\ntype doc\nrelation view: group#member"
        rows = [("doc:a", "view", "group:g#member")] + [("group:g", "member", f"user:{number}") for number in range(39)]
        self.primary = Primary("main", text, rows)
        wanted = sorted(f"user:{number}" for number in range(39))
        self.assertEqual(self.pages(SUBJECTS, 100), [(wanted, "")])
        pages = self.pages(SUBJECTS, 10)
        self.assertEqual([len(items) for items, _ in pages], [10, 10, 10, 9])
        self.assertEqual([item for items, _ in pages for item in items], wanted)

    def test_100_and_101_items(self):
        # Only a primary with more relationships than 40 has so many items; it is made all the same.
        text = "type user\ntype doc\nrelation view: user"
        for number, sizes in ((100, [100]), (101, [100, 1])):
            self.primary = Primary("main", text, [(f"doc:{index}", "view", "user:u") for index in range(number)])
            pages = self.pages(OBJECTS, 100)
            self.assertEqual([len(items) for items, _ in pages], sizes)
            self.assertEqual([item for items, _ in pages for item in items], sorted(docs(range(number))))

    def test_the_returned_list_is_new(self):
        first_page(self.primary, OBJECTS, 100)[0].clear()
        self.assertEqual(first_page(self.primary, OBJECTS, 100), (docs("abcd"), ""))


class RevisionsTest(ListingTest):
    def write(self, *updates):
        self.primary.write([(kind, f"doc:{letter}", "view", "user:u") for kind, letter in updates])

    def test_the_first_page_is_by_the_present_revision(self):
        self.write(("delete", "a"), ("create", "e"))
        self.assertEqual(first_page(self.primary, OBJECTS, 3), (docs("bcd"), "main@1 objects doc view user:u doc:d"))

    def test_what_is_written_between_pages(self):
        _, cursor = first_page(self.primary, OBJECTS, 2)
        self.write(("delete", "b"), ("delete", "c"), ("create", "e"), ("create", "b1"))
        self.assertEqual(next_page(self.primary, cursor, 1), (docs("c"), "main@0 objects doc view user:u doc:c"))
        self.assertEqual(next_page(self.primary, cursor, 9), (docs("cd"), ""))
        fresh = "main@1 objects doc view user:u doc:b"
        self.assertEqual(next_page(self.primary, fresh, 9), (["doc:b1", "doc:d", "doc:e"], ""))

    def test_a_page_behind_a_migration(self):
        _, cursor = first_page(self.primary, OBJECTS, 2)
        self.primary.migrate(TEXT.replace("relation edit: user", "relation edit: user\npermission see = view"))
        self.assertEqual(next_page(self.primary, cursor, 9), (docs("cd"), ""))
        self.assertEqual(next_page(self.primary, cursor.replace("view", "see"), 9), ([], ""))
        self.assertEqual(first_page(self.primary, ("objects", "doc", "see", "user:u"), 9), (docs("abcd"), ""))

    def test_a_page_behind_a_compaction(self):
        self.write(("create", "e"))
        _, cursor = first_page(self.primary, OBJECTS, 2)
        self.write(("create", "f"))
        self.write(("create", "g"))
        self.primary.compact(1)
        self.assertEqual(next_page(self.primary, cursor, 9), (docs("cde"), ""))
        self.primary.compact(2)
        self.assert_refused_unchanged("no such revision", next_page, self.primary, cursor, 9)

    def test_the_items_behind_an_item_that_is_none(self):
        head = "main@0 objects doc view user:u"
        self.assertEqual(next_page(self.primary, f"{head} doc:bb", 9), (docs("cd"), ""))
        self.assertEqual(next_page(self.primary, f"{head} doc:0", 2), (docs("ab"), f"{head} doc:b"))
        self.assertEqual(next_page(self.primary, f"{head} doc:d", 9), ([], ""))
        self.assertEqual(next_page(self.primary, f"{head} doc:z", 9), ([], ""))

    def test_any_lists(self):
        rng = random.Random(49)
        for _ in range(30):
            schema = random_schema(rng)
            rows = random_relationships(rng, schema, 14)
            self.primary = Primary("main", schema_text(schema), rows)
            table = evaluate(schema, rows)
            for target, name, subject in rng.sample(table, min(6, len(table))):
                kinds = (target.split(":")[0], subject.split(":")[0])
                objects = ("objects", kinds[0], name, subject)
                listed = [o for o, n, s in table if (n, s) == (name, subject) and o.startswith(kinds[0] + ":")]
                self.assert_listed(rng, objects, listed)
                subjects = ("subjects", target, name, kinds[1])
                listed = [s for o, n, s in table if (o, n) == (target, name) and s.startswith(kinds[1] + ":")]
                self.assert_listed(rng, subjects, listed)

    def assert_listed(self, rng, question, listed):
        size = rng.randint(1, 3)
        given = copy.copy(question)
        pages = self.pages(given, size)
        self.assertEqual([items for items, _ in pages], [listed[at:at + size] for at in range(0, len(listed), size)])
        self.assertEqual(given, question)


class ErrorsTest(ListingTest):
    def test_no_question(self):
        wrong = [
            (), ("objects",), OBJECTS[:3], SUBJECTS[:3], (*OBJECTS, "doc:a"), (*SUBJECTS, "user:u"), OBJECTS[1:],
            ("object", *OBJECTS[1:]), ("Objects", *OBJECTS[1:]), ("", *OBJECTS[1:]), ("subject", *SUBJECTS[1:]),
            ("subjects", *OBJECTS[1:]), ("objects", *SUBJECTS[1:]),
            ("objects", "doc:a", "view", "user:u"), ("objects", "", "view", "user:u"), ("objects", "Doc", "view", "user:u"),
            ("objects", "doc", "", "user:u"), ("objects", "doc", "1view", "user:u"), ("objects", "doc", "doc:a", "user:u"),
            ("objects", "doc", "view", "user"), ("objects", "doc", "view", ""), ("objects", "doc", "view", "user:u#member"),
            ("objects", "d" * 21, "view", "user:u"), ("objects", "doc", "v" * 21, "user:u"), ("objects", "doc ", "view", "user:u"),
            ("subjects", "doc", "view", "user"), ("subjects", "doc:a#view", "view", "user"), ("subjects", "", "view", "user"),
            ("subjects", "doc:a", "", "user"), ("subjects", "doc:a", "View", "user"), ("subjects", "doc:a", "view", ""),
            ("subjects", "doc:a", "view", "user:u"), ("subjects", "doc:a", "view", "user#member"),
        ]
        for question in wrong:
            for size in (1, 0, 101):
                self.assert_refused_unchanged("no question", first_page, self.primary, question, size)

    def test_no_cursor(self):
        self.primary.write([("create", "doc:e", "view", "user:u")])
        self.assertEqual(next_page(self.primary, CURSOR, 9), (docs("cde"), ""))
        parts = CURSOR.split(" ")
        wrong = {
            0: ["", "main", "main@", "@1", "main@01", "main@-1", "main@1001", "Main@1", "main@1@1", "main@x", "main 1"],
            1: ["", "subjects", "object", "Objects"],
            2: ["", "doc:a", "Doc", "doc#view"],
            3: ["", "View", "doc:a", "1"],
            4: ["", "user", "user:", "user:u#member", "User:u"],
            5: ["", "doc", "b", "doc:", "doc:B", "doc:b#view", "user:u", "docs:b", "doc:" + "b" * 21],
        }
        texts = [" ".join(parts[:at] + [word] + parts[at + 1:]) for at, words in wrong.items() for word in words]
        texts += ["", " ", "main@1", " ".join(parts[:5]), f"{CURSOR} doc:c", f" {CURSOR}", f"{CURSOR} ", f"{CURSOR}\n"]
        texts += [CURSOR.replace(" ", "  "), CURSOR.replace(" view", "  view"), CURSOR.replace(" ", "\n"), " ".join(parts[1:])]
        texts += ["main@1 subjects doc:a view user doc:a", "main@1 subjects doc view user user:u"]
        for text in texts:
            for size in (1, 0, 101):
                self.assert_refused_unchanged("no cursor", next_page, self.primary, text, size)
        self.assert_refused_unchanged("no cursor", next_page, Primary("other", TEXT), "main@1 objects", 5)

    def test_page_size(self):
        for size in (0, 101, -1, 1000):
            self.assert_refused_unchanged("page size", first_page, self.primary, OBJECTS, size)
            for token in ("main@0", "main@1", "other@0"):
                cursor = f"{token} objects doc view user:u doc:b"
                self.assert_refused_unchanged("page size", next_page, self.primary, cursor, size)

    def test_the_revision_of_a_cursor(self):
        for _ in range(3):
            self.write()
        self.primary.compact(2)
        for token in ("main@0", "main@1", "main@4", "main@1000"):
            cursor = f"{token} objects doc view user:u doc:b"
            self.assert_refused_unchanged("no such revision", next_page, self.primary, cursor, 5)
        for token in ("other@2", "other@9", "mai@2"):
            cursor = f"{token} objects doc view user:u doc:b"
            self.assert_refused_unchanged("token of another store", next_page, self.primary, cursor, 5)
        self.assertEqual(next_page(self.primary, "main@2 objects doc view user:u doc:b", 5), (docs("cd"), ""))

    def write(self):
        self.primary.write([("touch", "doc:a", "view", "user:u")])
