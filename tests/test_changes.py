"""Points 19 and 20: changes of grants."""

import itertools

from raising import RaisingTest

from authsync.changes import applies, apply_change, compose, difference

A, B, C, D = [("doc:" + letter, "view", "user:u") for letter in "abcd"]


def subsets(grants):
    return [list(some) for size in range(len(grants) + 1) for some in itertools.combinations(grants, size)]


def changes(grants):
    return [(gained, lost) for gained in subsets(grants) for lost in subsets(grants) if not set(gained) & set(lost)]


class ChangesTest(RaisingTest):
    def test_difference(self):
        self.assertEqual(difference([A, B], [B, C, D]), ([C, D], [A]))
        self.assertEqual(difference([], [A, B]), ([A, B], []))
        self.assertEqual(difference([A, B], []), ([], [A, B]))
        self.assertEqual(difference([A, B], [A, B]), ([], []))

    def test_applies(self):
        for grants, change, wanted in (
            ([A], ([B], [A]), True), ([A], ([], []), True), ([], ([A], []), True), ([A, B], ([], [A, B]), True),
            ([A], ([A], []), False), ([A], ([B], [C]), False), ([A], ([B, A], []), False), ([A], ([], [A, B]), False),
            ([], ([], [A]), False), ([A, B], ([C, D], [A, C]), False),
        ):
            self.assertIs(applies(grants, change), wanted, (grants, change))

    def test_apply_change(self):
        self.assertEqual(apply_change([B, C], ([A, D], [C])), [A, B, D])
        self.assertEqual(apply_change([], ([A, B], [])), [A, B])
        self.assertEqual(apply_change([A], ([], [A])), [])
        for grants, change in (([A], ([A], [])), ([A], ([], [B])), ([A, B], ([C], [A, D]))):
            self.assert_refused("change does not apply", -1, apply_change, grants, change)

    def test_compose(self):
        self.assertEqual(compose(([A], [B]), ([C], [D])), ([A, C], [B, D]))
        self.assertEqual(compose(([A], [B]), ([B], [A])), ([], []))
        self.assertEqual(compose(([C], []), ([A], [])), ([A, C], []))
        self.assertEqual(compose(([A, B], [D]), ([C, D], [A])), ([B, C], []))
        self.assertEqual(compose(([], []), ([A], [B])), ([A], [B]))

    def test_what_does_not_compose(self):
        for first, second in (
            (([A], []), ([A], [])), (([], [A]), ([], [A])), (([A, B], [C]), ([B], [D])), (([A], [C, D]), ([B], [D])),
            (([A], [B]), ([B], [B])),
        ):
            self.assert_refused("changes do not compose", -1, compose, first, second)

    def test_all_small_changes(self):
        grants = [A, B, C]
        for before, after in itertools.product(subsets(grants), repeat=2):
            change = difference(before, after)
            self.assertTrue(applies(before, change))
            self.assertEqual(apply_change(before, change), after)
        for first, second in itertools.product(changes(grants), repeat=2):
            for before in subsets(grants):
                if applies(before, first) and applies(apply_change(before, first), second):
                    after = apply_change(apply_change(before, first), second)
                    self.assertEqual(apply_change(before, compose(first, second)), after)

    def test_nothing_that_is_passed_is_modified_or_returned(self):
        grants, change = [B], ([A], [B])
        result = apply_change(grants, change)
        result.clear()
        composed = compose(change, ([], []))
        composed[0].clear()
        difference(grants, [])[1].clear()
        apply_change(grants, ([], [])).clear()
        self.assertEqual((grants, change), ([B], ([A], [B])))
