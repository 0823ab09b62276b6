"""Point 58: demands."""

import copy
import random

from raising import RaisingTest

from authsync.demands import Demand, read_demand


def demand(*tokens):
    made = Demand()
    for token in tokens:
        made.note(token)
    return made


class NotingTest(RaisingTest):
    def test_a_demand_without_tokens(self):
        self.assertEqual((Demand().tokens(), Demand().text(), Demand().token_for("main")), ([], "", ""))
        self.assertIs(Demand().is_met("main", 0), True)

    def test_newer_equal_and_older_tokens(self):
        made = Demand()
        for token, newer, newest in (
            ("main@3", True, "main@3"), ("main@3", False, "main@3"), ("main@2", False, "main@3"),
            ("main@4", True, "main@4"), ("main@0", False, "main@4"), ("main@3", False, "main@4"),
            ("main@10", True, "main@10"), ("main@9", False, "main@10"), ("main@1000", True, "main@1000"),
        ):
            self.assertIs(made.note(token), newer)
            self.assertEqual((made.token_for("main"), made.tokens(), made.text()), (newest, [newest], newest))

    def test_revision_0(self):
        made = Demand()
        self.assertIs(made.note("main@0"), True)
        self.assertIs(made.note("main@0"), False)
        self.assertEqual((made.token_for("main"), made.text()), ("main@0", "main@0"))
        self.assertIs(made.note("main@1"), True)

    def test_several_stores(self):
        made = Demand()
        told = [made.note(token) for token in ("b@3", "a@1", "b@2", "c@0", "a@2", "c@0", "b@3")]
        self.assertEqual(told, [True, True, False, True, True, False, False])
        self.assertEqual(made.tokens(), ["a@2", "b@3", "c@0"])
        self.assertEqual([made.token_for(store) for store in ("a", "b", "c", "d")], ["a@2", "b@3", "c@0", ""])

    def test_the_stores_are_in_ascending_order(self):
        tokens = ["b1@1", "b@2", "a_@7", "a@1000", "aa@3", "a1@0"]
        wanted = ["a@1000", "a1@0", "a_@7", "aa@3", "b@2", "b1@1"]
        self.assertNotEqual(wanted, sorted(wanted))
        self.assertEqual(demand(*tokens).tokens(), wanted)
        self.assertEqual(demand(*tokens).text(), " ".join(wanted))

    def test_the_list_of_the_tokens_is_new(self):
        made = demand("a@1", "b@2")
        made.tokens().clear()
        self.assertEqual(made.tokens(), ["a@1", "b@2"])

    def test_what_meets_a_demand(self):
        made = demand("a@3", "b@0")
        self.assertEqual([made.is_met("a", revision) for revision in (0, 2, 3, 4, 1000)], [False, False, True, True, True])
        self.assertEqual([made.is_met("b", revision) for revision in (0, 1)], [True, True])
        self.assertEqual([made.is_met("c", revision) for revision in (0, 1)], [True, True])
        made.note("a@4")
        self.assertEqual([made.is_met("a", revision) for revision in (3, 4)], [False, True])

    def test_demands_do_not_share_anything(self):
        first, second = Demand(), Demand()
        first.note("a@1")
        self.assertEqual(second.tokens(), [])


class TakingTest(RaisingTest):
    def test_demands_that_take_one_another(self):
        first, second = demand("a@1", "b@5", "c@3"), demand("a@2", "b@5", "c@2", "d@0")
        self.assertEqual(first.take(second), 2)
        self.assertEqual((first.text(), second.text()), ("a@2 b@5 c@3 d@0", "a@2 b@5 c@2 d@0"))
        self.assertEqual(second.take(first), 1)
        self.assertEqual(second.text(), first.text())
        self.assertEqual((first.take(second), second.take(first)), (0, 0))

    def test_demands_that_take_themselves(self):
        made = demand("a@1", "b@5")
        self.assertEqual((made.take(made), made.text()), (0, "a@1 b@5"))
        self.assertEqual(Demand().take(Demand()), 0)

    def test_demands_without_tokens(self):
        made = Demand()
        self.assertEqual((made.take(demand("a@1", "b@5")), made.text()), (2, "a@1 b@5"))
        self.assertEqual((made.take(Demand()), made.text()), (0, "a@1 b@5"))

    def test_they_stay_apart(self):
        first, second = demand("a@1"), Demand()
        second.take(first)
        second.note("a@2")
        second.note("b@1")
        first.note("c@1")
        self.assertEqual((first.text(), second.text()), ("a@1 c@1", "a@2 b@1"))


class TextTest(RaisingTest):
    def test_texts_of_demands(self):
        for text in ("", "a@0", "main@1000", "a@1 b@2", "a@1 a1@1 a_@1 aa@1", "b@0 c@0 d@0"):
            made = read_demand(text)
            self.assertIsInstance(made, Demand)
            self.assertEqual(made.text(), text)
            self.assertEqual(made.tokens(), text.split())

    def test_what_was_read_goes_on(self):
        made = read_demand("a@1 b@2")
        self.assertEqual((made.note("a@1"), made.note("b@3"), made.note("c@0")), (False, True, True))
        self.assertEqual(read_demand("a@1 b@2").text(), "a@1 b@2")

    def test_other_texts(self):
        texts = ["b@1 a@1", "a@1 c@1 b@1", "a1@1 a@1", "aa@1 a_@1", "a@1 a@1", "a@1 a@2", "a@2 a@1", "a@1 b@1 a@1"]
        texts += [" ", "  ", " a@1", "a@1 ", "a@1  b@1", "a@1\nb@1", "a@1\n", "\n", "a@1,b@1", "a@1, b@1"]
        texts += ["a", "a@", "@1", "a@01", "a@1001", "a@-1", "a@+1", "a@x", "A@1", "1@1", "a@1@1", "a 1", "a" * 21 + "@1"]
        texts += ["a@1 b", "a@1 b@", "a@1 b@01 c@1", "a@1 B@1", "no demand", "want a 1"]
        for text in texts:
            self.assert_bad_feed(1, "no demand", read_demand, text)

    def test_any_demands(self):
        rng = random.Random(58)
        stores = ["a", "a1", "a_", "aa", "b"]
        for _ in range(200):
            sides = [[(rng.choice(stores), rng.randint(0, 12)) for _ in range(rng.randint(0, 8))] for _ in range(2)]
            first, second = [demand(*[f"{store}@{revision}" for store, revision in side]) for side in sides]
            newest = [self.newest(side) for side in sides]
            for made, known in zip((first, second), newest):
                self.assertEqual(made.text(), " ".join(f"{store}@{known[store]}" for store in sorted(known)))
                self.assertEqual(read_demand(made.text()).tokens(), made.tokens())
                for store in stores:
                    revision = rng.randint(0, 12)
                    self.assertEqual(made.is_met(store, revision), revision >= known.get(store, 0))
            both = self.newest(sides[0] + sides[1])
            other = copy.deepcopy(second)
            newer = [store for store in newest[1] if newest[1][store] > newest[0].get(store, -1)]
            self.assertEqual(first.take(second), len(newer))
            self.assertEqual(first.tokens(), [f"{store}@{both[store]}" for store in sorted(both)])
            self.assertEqual(second.tokens(), other.tokens())

    def newest(self, tokens):
        return {store: max(revision for one, revision in tokens if one == store) for store, _ in tokens}
