"""Points 16, 17 and 18: certificates and whether they are valid."""

import itertools
import random

from model import random_relationships, random_schema
from raising import RaisingTest

from authsync.certificates import certify, verify
from authsync.schema import names_of, read_schema
from authsync.tables import ranked

SCHEMA = read_schema("""type user
type group
  relation member: user, group#member
type doc
  relation parent: doc, group
  relation owner: user, group#member
  relation banned: user
  permission edit = owner | parent.edit
  permission view = edit - banned""")
ROWS = [
    ("doc:a", "parent", "doc:b"), ("doc:a", "parent", "group:g"), ("doc:b", "owner", "group:g#member"),
    ("group:g", "member", "group:h#member"), ("group:h", "member", "user:u"), ("group:h", "member", "group:g#member"),
    ("doc:b", "banned", "user:v"), ("doc:c", "owner", "user:u"),
]
QUESTION = ("doc:a", "view", "user:u")
ENTRIES = [
    ("doc:a", "banned", 0), ("doc:a", "edit", 5), ("doc:a", "owner", 0), ("doc:a", "view", 1), ("doc:b", "edit", 4),
    ("doc:b", "owner", 3), ("group:g", "member", 2), ("group:h", "member", 1),
]


def chain(length):
    """Groups in a row, of which the last one has the user as its member."""
    rows = [(f"group:{index}", "member", f"group:{index + 1}#member") for index in range(1, length)]
    return [*rows, (f"group:{length}", "member", "user:u")]


class CertifyTest(RaisingTest):
    def test_a_certificate_of_yes(self):
        self.assertEqual(certify(SCHEMA, ROWS, *QUESTION), (True, ENTRIES))

    def test_a_certificate_of_no(self):
        wanted = [(target, name, 0) for target, name, _ in ENTRIES]
        self.assertEqual(certify(SCHEMA, ROWS, "doc:a", "view", "user:w"), (False, wanted))

    def test_the_pairs_of_a_relation_are_those_of_its_references(self):
        wanted = [("group:g", "member", 2), ("group:h", "member", 1)]
        self.assertEqual(certify(SCHEMA, ROWS, "group:g", "member", "user:u"), (True, wanted))
        self.assertEqual(certify(SCHEMA, ROWS, "doc:a", "parent", "doc:b"), (True, [("doc:a", "parent", 1)]))
        self.assertEqual(certify(SCHEMA, ROWS, "doc:x", "owner", "user:u"), (False, [("doc:x", "owner", 0)]))

    def test_pairs_of_excluded_terms_belong_to_it(self):
        allowed, entries = certify(SCHEMA, ROWS, "doc:b", "view", "user:v")
        self.assertIs(allowed, False)
        self.assertIn(("doc:b", "banned", 1), entries)
        self.assertIn(("doc:b", "view", 0), entries)

    def test_what_is_excluded_has_the_rank_0(self):
        rows = [("doc:b", "owner", "user:v"), ("doc:b", "banned", "user:v")]
        question = ("doc:b", "view", "user:v")
        entries = [("doc:b", "banned", 1), ("doc:b", "edit", 2), ("doc:b", "owner", 1), ("doc:b", "view", 0)]
        self.assertEqual(certify(SCHEMA, rows, *question), (False, entries))
        self.assertTrue(verify(SCHEMA, rows, *question, (False, entries)))
        self.assertFalse(verify(SCHEMA, rows, *question, (True, [*entries[:3], ("doc:b", "view", 1)])))

    def test_errors(self):
        bad = ("doc:a", "edit", "user:u")
        nothing = (False, [])
        for call, more in ((certify, ()), (verify, (nothing,))):
            rows = [*ROWS, bad]
            self.assert_refused("relationship does not conform", 8, call, SCHEMA, rows, "x:a", "view", "user:u", *more)
            rows = [*ROWS, ROWS[0]]
            self.assert_refused("duplicate relationship", -1, call, SCHEMA, rows, "x:a", "view", "user:u", *more)
            self.assert_refused("unknown type", -1, call, SCHEMA, ROWS, "x:a", "view", "user:u", *more)
            self.assert_refused("unknown type", -1, call, SCHEMA, ROWS, "doc:a", "none", "x:u", *more)
            self.assert_refused("unknown name", -1, call, SCHEMA, ROWS, "doc:a", "member", "user:u", *more)

    def test_random_certificates(self):
        rng = random.Random(17)
        for _ in range(60):
            schema = random_schema(rng)
            rows = random_relationships(rng, schema, 20)
            ranks = ranked(schema, rows)
            for target, name, subject in self.questions(schema, rows, rng):
                allowed, entries = certify(schema, rows, target, name, subject)
                self.assertIs(allowed, (target, name, subject) in ranks)
                self.assertEqual(entries, sorted(entries))
                for other, part, rank in entries:
                    self.assertEqual(rank, ranks.get((other, part, subject), 0))
                self.assertIs(verify(schema, rows, target, name, subject, (allowed, entries)), True)
                self.assert_no_other_is_valid(schema, rows, (target, name, subject), (allowed, entries))

    def questions(self, schema, rows, rng):
        objects = sorted({row[0] for row in rows} | {row[2].split("#")[0] for row in rows})
        asked = [(a, name, b) for a in objects for name in names_of(schema, a.split(":")[0]) for b in objects]
        return rng.sample(asked, min(10, len(asked)))

    def assert_no_other_is_valid(self, schema, rows, question, certificate):
        allowed, entries = certificate
        self.assertFalse(verify(schema, rows, *question, (not allowed, entries)))
        for index, (target, name, rank) in enumerate(entries):
            self.assertFalse(verify(schema, rows, *question, (allowed, entries[:index] + entries[index + 1:])))
            for other in (0, rank - 1, rank + 1, 10000):
                if other != rank:
                    changed = [*entries[:index], (target, name, other), *entries[index + 1:]]
                    self.assertFalse(verify(schema, rows, *question, (allowed, changed)))


class OperatorsTest(RaisingTest):
    """The count of each operator, where the sides have different ranks in one stratum."""

    relations = "type u\ntype d\n" + "".join(f"relation {name}: u, d#{name}\n" for name in "abc")

    def rows(self, ranks):
        """Relationships by which the user has a, b and c with these ranks on the first object, 0 for not."""
        rows = []
        for name, rank in zip("abc", ranks):
            rows += [(f"d:{index}", name, f"d:{index + 1}#{name}") for index in range(1, rank)]
            rows += [(f"d:{rank}", name, "u:x")] if rank else []
        return rows

    def test_operators(self):
        question = ("d:1", "p", "u:x")
        for one, two in itertools.product("|&-", repeat=2):
            schema = read_schema(self.relations + f"permission p = a {one} b {two} c")
            for ranks in itertools.product((0, 1, 2, 3), repeat=3):
                rows = self.rows(ranks)
                wanted = ranked(schema, rows).get(question, 0)
                allowed, entries = certify(schema, rows, *question)
                at = entries.index(("d:1", "p", wanted))
                self.assertTrue(verify(schema, rows, *question, (allowed, entries)))
                for rank in {0, 1, 2, 3, 4} - {wanted}:
                    changed = [*entries[:at], ("d:1", "p", rank), *entries[at + 1:]]
                    self.assertFalse(verify(schema, rows, *question, (rank > 0, changed)))


class VerifyTest(RaisingTest):
    def is_valid(self, entries, allowed=True, question=QUESTION, rows=ROWS):
        valid = verify(SCHEMA, rows, *question, (allowed, entries))
        self.assertIn(valid, (True, False))
        return valid

    def changed(self, *rows):
        """The entries with those of the same pairs as rows replaced, and the others of rows put in."""
        ranks = {(target, name): rank for target, name, rank in ENTRIES}
        ranks.update({(target, name): rank for target, name, rank in rows})
        return [(*pair, ranks[pair]) for pair in sorted(ranks)]

    def test_the_certificate_itself(self):
        self.assertTrue(self.is_valid(ENTRIES))
        self.assertTrue(self.is_valid(list(ENTRIES), rows=tuple(reversed(ROWS))))

    def test_the_answer_must_be_that_of_the_rank(self):
        self.assertFalse(self.is_valid(ENTRIES, allowed=False))
        no = [(target, name, 0) for target, name, _ in ENTRIES]
        question = ("doc:a", "view", "user:w")
        self.assertTrue(self.is_valid(no, False, question))
        self.assertFalse(self.is_valid(no, True, question))

    def test_the_pair_of_the_question_must_be_there(self):
        rest = [entry for entry in ENTRIES if entry[:2] != ("doc:a", "view")]
        self.assertFalse(self.is_valid(rest))
        self.assertFalse(self.is_valid(rest, False))
        self.assertFalse(self.is_valid([]))
        self.assertFalse(self.is_valid([], False))

    def test_pairs_must_be_ascending(self):
        self.assertFalse(self.is_valid(list(reversed(ENTRIES))))
        self.assertFalse(self.is_valid([ENTRIES[1], ENTRIES[0], *ENTRIES[2:]]))
        self.assertFalse(self.is_valid([ENTRIES[0], *ENTRIES]))
        self.assertFalse(self.is_valid([*ENTRIES, ENTRIES[-1]]))

    def test_a_pair_left_out(self):
        for index in range(len(ENTRIES)):
            self.assertFalse(self.is_valid(ENTRIES[:index] + ENTRIES[index + 1:]), index)

    def test_a_pair_put_in_with_all_on_which_it_depends(self):
        self.assertTrue(self.is_valid(self.changed(("doc:c", "owner", 1))))
        self.assertTrue(self.is_valid(self.changed(("doc:c", "edit", 2), ("doc:c", "owner", 1))))
        self.assertTrue(self.is_valid(self.changed(("doc:b", "view", 1), ("doc:b", "banned", 0))))
        self.assertFalse(self.is_valid(self.changed(("doc:c", "owner", 2))))
        self.assertFalse(self.is_valid(self.changed(("doc:c", "owner", 0))))
        self.assertFalse(self.is_valid(self.changed(("doc:c", "edit", 2))))
        self.assertFalse(self.is_valid(self.changed(("doc:c", "view", 0))))

    def test_a_pair_put_in_that_the_schema_does_not_have(self):
        for target, name in (("file:f", "view"), ("doc:a", "member"), ("user:u", "x")):
            self.assertTrue(self.is_valid(self.changed((target, name, 0))))
            self.assertFalse(self.is_valid(self.changed((target, name, 1))))

    def test_ranks_that_support_each_other_are_not_valid(self):
        rows = [("group:g", "member", "group:h#member"), ("group:h", "member", "group:g#member")]
        question = ("group:g", "member", "user:u")
        for one in range(4):
            for other in range(4):
                entries = [("group:g", "member", one), ("group:h", "member", other)]
                self.assertEqual(self.is_valid(entries, one > 0, question, rows), one == other == 0)

    def test_ranks_have_bounds(self):
        question = ("group:1", "member", "user:u")
        for length, valid in ((9999, True), (10000, True), (10001, False)):
            rows = chain(length)
            certificate = certify(SCHEMA, rows, *question)
            self.assertEqual(max(rank for _, _, rank in certificate[1]), length)
            self.assertIs(verify(SCHEMA, rows, *question, certificate), valid)
        self.assertFalse(self.is_valid(self.changed(("file:f", "x", -1))))
        self.assertFalse(self.is_valid(self.changed(("doc:a", "banned", -1))))

    def test_nothing_is_modified(self):
        rows, entries = list(ROWS), list(ENTRIES)
        certify(SCHEMA, rows, *QUESTION)[1].clear()
        verify(SCHEMA, rows, *QUESTION, (True, entries))
        self.assertEqual((rows, entries), (ROWS, ENTRIES))
        self.assertEqual(certify(SCHEMA, rows, *QUESTION), (True, ENTRIES))
