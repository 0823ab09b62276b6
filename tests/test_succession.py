"""Point 51: successions."""

import copy

from raising import RaisingTest

from authsync.primary import Primary
from authsync.replica import Replica
from authsync.succession import Succession

TEXT = "type user\ntype doc\n  relation view: user"
OTHER = TEXT + "\n  permission see = view"


def create(letter):
    return [("create", f"doc:{letter}", "view", "user:u")]


class SuccessionTest(RaisingTest):
    def setUp(self):
        self.first = Primary("first", TEXT, [("doc:a", "view", "user:u")])
        self.row = Succession(self.first)

    def state(self):
        primary = self.row.primary()
        told = [self.row.demanded(f"{store}@0") for store in self.row.ids()]
        return (self.row.ids(), primary.token(), primary.grants(""), primary.relationships(""), told)

    def assert_refused_unchanged(self, what, call, *values):
        before = self.state()
        present = self.row.primary()
        self.assert_refused(what, -1, call, *values)
        self.assertEqual(self.state(), before)
        self.assertIs(self.row.primary(), present)

    def test_a_row_of_one(self):
        self.assertIs(self.row.primary(), self.first)
        self.assertEqual(self.row.ids(), ["first"])

    def test_handing_over(self):
        self.first.write(create("b"))
        self.assertEqual(self.row.hand_over("second"), "second@0")
        second = self.row.primary()
        self.assertIsNot(second, self.first)
        self.assertEqual((second.store_id(), second.revision(), second.oldest()), ("second", 0, 0))
        self.assertEqual(second.relationships(""), self.first.relationships(""))
        self.assertEqual((second.grants(""), second.schema_text("")), (self.first.grants(""), self.first.schema_text("")))
        self.assertEqual(self.row.ids(), ["first", "second"])

    def test_the_present_schema_and_relationships_are_taken_over(self):
        self.first.migrate(OTHER)
        self.first.write(create("b"))
        self.first.write([("delete", "doc:a", "view", "user:u")])
        self.row.hand_over("second")
        second = self.row.primary()
        self.assertEqual(second.schema_text(""), OTHER)
        self.assertEqual(second.relationships("second@0"), [("doc:b", "view", "user:u")])
        self.assertEqual(second.check("doc:b", "see", "user:u", ""), (True, "second@0"))
        self.assert_refused("no such revision", -1, second.entry, 0)

    def test_the_primaries_go_on_by_themselves(self):
        self.row.hand_over("second")
        second = self.row.primary()
        second.write(create("b"))
        self.first.write(create("c"))
        self.assertEqual([one[0] for one in second.relationships("")], ["doc:a", "doc:b"])
        self.assertEqual([one[0] for one in self.first.relationships("")], ["doc:a", "doc:c"])
        self.assertIs(self.row.primary(), second)

    def test_several_hand_overs(self):
        for number, store in enumerate(("z", "second", "a_1")):
            self.row.primary().write(create(f"b{number}"))
            self.assertEqual(self.row.hand_over(store), f"{store}@0")
        self.assertEqual(self.row.ids(), ["first", "z", "second", "a_1"])
        self.assertEqual([one[0] for one in self.row.primary().relationships("")], ["doc:a", "doc:b0", "doc:b1", "doc:b2"])

    def test_behind_the_last_revision_there_is_room_again(self):
        for number in range(40):
            self.first.write([("touch", "doc:a", "view", "user:u")])
        self.assert_refused("too many revisions", -1, self.first.write, create("b"))
        self.row.hand_over("second")
        self.assertEqual(self.row.primary().write(create("b")), "second@1")
        self.assertEqual((self.row.demanded("first@40"), self.row.demanded("second@1")), (0, 1))

    def test_ids_of_the_row(self):
        self.assert_refused_unchanged("duplicate store", self.row.hand_over, "first")
        self.row.hand_over("second")
        self.row.hand_over("third")
        for store in ("first", "second", "third"):
            self.assert_refused_unchanged("duplicate store", self.row.hand_over, store)
        self.assertEqual(self.row.hand_over("fourth"), "fourth@0")

    def test_the_list_of_the_ids_is_new(self):
        self.row.hand_over("second")
        self.row.ids().clear()
        self.assertEqual(self.row.ids(), ["first", "second"])
        self.assert_refused_unchanged("duplicate store", self.row.hand_over, "first")

    def test_tokens_of_the_present_store(self):
        self.assertEqual([self.row.demanded(f"first@{number}") for number in (0, 1, 7, 1000)], [0, 1, 7, 1000])
        self.row.hand_over("second")
        self.assertEqual([self.row.demanded(f"second@{number}") for number in (0, 1, 7, 1000)], [0, 1, 7, 1000])

    def test_tokens_of_earlier_stores(self):
        self.first.write(create("b"))
        self.first.write(create("c"))
        self.row.hand_over("second")
        self.row.primary().write(create("d"))
        for _ in range(2):
            self.assertEqual([self.row.demanded(f"first@{number}") for number in (0, 1, 2)], [0, 0, 0])
            for number in (3, 4, 1000):
                self.assert_refused_unchanged("token was left behind", self.row.demanded, f"first@{number}")
            if "third" not in self.row.ids():
                self.row.hand_over("third")
        self.assertEqual([self.row.demanded(f"second@{number}") for number in (0, 1)], [0, 0])
        self.assert_refused_unchanged("token was left behind", self.row.demanded, "second@2")
        self.assertEqual(self.row.demanded("third@2"), 2)

    def test_an_earlier_primary_that_is_written_to_behind_the_hand_over(self):
        self.first.write(create("b"))
        self.row.hand_over("second")
        token = self.first.write(create("c"))
        self.assertEqual((token, self.row.demanded("first@1")), ("first@2", 0))
        self.assert_refused_unchanged("token was left behind", self.row.demanded, token)
        self.first.compact(2)
        self.assertEqual((self.row.demanded("first@1"), self.row.demanded("first@0")), (0, 0))

    def test_a_compacted_primary_hands_over(self):
        self.first.write(create("b"))
        self.first.compact(1)
        self.row.hand_over("second")
        self.assertEqual([one[0] for one in self.row.primary().relationships("")], ["doc:a", "doc:b"])
        self.assertEqual(self.row.demanded("first@0"), 0)
        self.assert_refused_unchanged("token was left behind", self.row.demanded, "first@2")

    def test_tokens_of_other_stores(self):
        for token in ("second@0", "firs@0", "first1@0", "other@1000"):
            self.assert_refused_unchanged("token of another store", self.row.demanded, token)
        self.row.hand_over("second")
        for token in ("third@0", "seconds@0", "other@7"):
            self.assert_refused_unchanged("token of another store", self.row.demanded, token)

    def test_texts_that_are_no_tokens(self):
        for _ in range(2):
            for token in ("", "first", "first@", "first@01", "first@1001", "@0", "First@0"):
                self.assert_refused_unchanged("token of another store", self.row.demanded, token)
            self.row.hand_over(f"s{len(self.row.ids())}")

    def test_rows_do_not_share_anything(self):
        other = copy.deepcopy(self.row)
        self.row.hand_over("second")
        self.assertEqual((other.ids(), other.demanded("first@5")), (["first"], 5))

    def test_what_is_demanded_shows_all_that_a_token_can_name(self):
        tokens = [self.first.token(), self.first.write(create("b"))]
        self.row.hand_over("second")
        tokens.append(self.row.primary().write(create("c")))
        reader = Replica(self.row.primary().snapshot("second@0"))
        for token, letters in zip(tokens, ("a", "ab", "abc")):
            while reader.revision() < self.row.demanded(token):
                reader.receive(self.row.primary().entry(reader.revision() + 1))
            for letter in letters:
                self.assertTrue(reader.check(f"doc:{letter}", "view", "user:u", "")[0])
