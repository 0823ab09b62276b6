"""Points 43 and 44: the fewest relationships that revoke or give a grant."""

import copy
import itertools
import random

from model import Model, random_relationships, random_schema
from raising import RaisingTest

from authsync.schema import read_schema
from authsync.why import giving, revoking

SCHEMA = read_schema("""
type user
type group
relation member: user, group#member
type doc
relation owner: user, group#member
relation guest: user, group#member
relation banned: user
relation parent: doc
permission view = owner | guest | parent.view - banned
permission both = owner & guest
""")
QUESTION = ("doc:a", "view", "user:u")
OWNER = ("doc:a", "owner", "user:u")
GUEST = ("doc:a", "guest", "user:u")
BANNED = ("doc:a", "banned", "user:u")
TEAM = ("doc:a", "owner", "group:g#member")
TEAM_GUEST = ("doc:a", "guest", "group:g#member")
MEMBER = ("group:g", "member", "user:u")


def owners(number):
    return [(f"doc:{index}", "owner", "user:u") for index in range(number)]


def least_choice(rows, fits):
    """The least of the smallest choices that fit, by looking at all of a size."""
    for size in range(len(rows) + 1):
        found = [list(one) for one in itertools.combinations(sorted(rows), size) if fits(list(one))]
        if found:
            return min(found)
    return None


class RevokingTest(RaisingTest):
    def assert_revoked(self, wanted, *relationships, question=QUESTION):
        for rows in (list(relationships), list(reversed(relationships))):
            self.assertEqual(revoking(SCHEMA, rows, *question), wanted)

    def test_the_answer_is_no_anyway(self):
        self.assert_revoked(None)
        self.assert_revoked(None, ("doc:b", "owner", "user:u"), MEMBER)
        self.assert_revoked(None, OWNER, GUEST, BANNED)

    def test_one_relationship(self):
        self.assert_revoked([OWNER], OWNER, MEMBER, ("doc:b", "owner", "user:u"))
        self.assert_revoked([OWNER], OWNER, question=("doc:a", "owner", "user:u"))

    def test_several_relationships(self):
        self.assert_revoked([GUEST, OWNER], OWNER, GUEST, MEMBER)
        self.assert_revoked([GUEST, TEAM, OWNER], OWNER, GUEST, TEAM, MEMBER)
        parent = ("doc:a", "parent", "doc:b")
        self.assert_revoked([GUEST, OWNER, parent], OWNER, GUEST, parent, ("doc:b", "owner", "user:u"))

    def test_one_that_stands_for_several(self):
        self.assert_revoked([MEMBER], TEAM, TEAM_GUEST, MEMBER)

    def test_the_least_of_several_lists(self):
        self.assert_revoked([TEAM], TEAM, MEMBER)
        self.assert_revoked([GUEST], OWNER, GUEST, question=("doc:a", "both", "user:u"))
        self.assert_revoked([TEAM_GUEST, OWNER], OWNER, TEAM_GUEST, MEMBER)

    def test_the_fewest_come_before_the_least(self):
        rows = [TEAM, TEAM_GUEST, MEMBER, ("doc:a", "banned", "user:v")]
        self.assert_revoked([MEMBER], *rows)

    def test_exclusion_by_which_more_relationships_grant_less(self):
        schema = read_schema("type user\ntype doc\nrelation in: user\nrelation out: user\npermission p = in - out")
        gone = [("doc:a", "in", "user:u")]
        self.assertEqual(revoking(schema, gone + [("doc:a", "out", "user:v")], "doc:a", "p", "user:u"), gone)
        chain = read_schema("type user\ntype doc\nrelation x: user\nrelation y: user\npermission q = x - y\n"
                            "relation z: user\npermission p = z - q")
        rows = [("doc:a", "x", "user:u"), ("doc:a", "y", "user:u"), ("doc:a", "z", "user:u")]
        self.assertEqual(revoking(chain, rows, "doc:a", "p", "user:u"), [("doc:a", "y", "user:u")])

    def test_12_and_13_relationships(self):
        rows = [OWNER, *owners(11)]
        self.assert_revoked([OWNER], *rows)
        self.assert_refused("too many to try", -1, revoking, SCHEMA, owners(13), *QUESTION)
        self.assert_refused("too many to try", -1, revoking, SCHEMA, [OWNER, *owners(12)], *QUESTION)

    def test_12_relationships_that_all_must_go(self):
        names = [f"r{number}" for number in range(6)]
        text = "type user\ntype doc\n" + "\n".join(f"relation {name}: user, doc" for name in names)
        schema = read_schema(text + "\ntype page\nrelation of: doc\npermission p = " + " | ".join(f"of.{one}" for one in names))
        rows = [("page:a", "of", f"doc:{number}") for number in range(6)]
        rows += [(f"doc:{number}", f"r{number}", "user:u") for number in range(6)]
        wanted = [(f"doc:{number}", f"r{number}", "user:u") for number in range(6)]
        self.assertEqual(revoking(schema, rows, "page:a", "p", "user:u"), wanted)

    def test_errors(self):
        bad = ("doc:a", "owner", "doc:b")
        many = owners(13)
        self.assert_refused("relationship does not conform", 13, revoking, SCHEMA, [*many, bad], "x:a", "no", "user:u")
        self.assert_refused("duplicate relationship", -1, revoking, SCHEMA, [*many, many[0]], "x:a", "no", "user:u")
        self.assert_refused("unknown type", -1, revoking, SCHEMA, many, "x:a", "no", "user:u")
        self.assert_refused("unknown type", -1, revoking, SCHEMA, many, "doc:a", "no", "x:u")
        self.assert_refused("unknown name", -1, revoking, SCHEMA, many, "doc:a", "no", "user:u")
        self.assert_refused("too many to try", -1, revoking, SCHEMA, many, *QUESTION)


class GivingTest(RaisingTest):
    def assert_given(self, wanted, relationships, *candidates, question=QUESTION):
        for rows in (list(candidates), list(reversed(candidates))):
            self.assertEqual(giving(SCHEMA, relationships, rows, *question), wanted)

    def test_the_answer_is_yes_anyway(self):
        self.assert_given([], [OWNER])
        self.assert_given([], [OWNER], GUEST, BANNED)
        self.assert_given([], [OWNER], OWNER)

    def test_none_of_the_candidates(self):
        self.assert_given(None, [])
        self.assert_given(None, [], TEAM, ("doc:b", "owner", "user:u"))
        self.assert_given(None, [BANNED], OWNER, GUEST)
        self.assert_given(None, [TEAM], TEAM)

    def test_one_of_the_candidates(self):
        self.assert_given([OWNER], [], OWNER, MEMBER, BANNED)
        self.assert_given([MEMBER], [TEAM], MEMBER, BANNED)
        self.assert_given([TEAM], [MEMBER], TEAM)

    def test_several_of_the_candidates(self):
        self.assert_given([TEAM, MEMBER], [], TEAM, MEMBER, BANNED)
        self.assert_given([GUEST, OWNER], [], OWNER, GUEST, MEMBER, question=("doc:a", "both", "user:u"))

    def test_the_least_of_several_lists(self):
        self.assert_given([GUEST], [], OWNER, GUEST)
        self.assert_given([TEAM_GUEST, MEMBER], [], TEAM, TEAM_GUEST, MEMBER)

    def test_the_fewest_come_before_the_least(self):
        self.assert_given([OWNER], [], TEAM_GUEST, MEMBER, OWNER)

    def test_candidates_that_are_among_the_relationships(self):
        self.assert_given([MEMBER], [TEAM], TEAM, MEMBER)
        self.assert_given([OWNER], [GUEST], GUEST, OWNER, question=("doc:a", "both", "user:u"))

    def test_exclusion_by_which_more_relationships_grant_less(self):
        schema = read_schema("type user\ntype doc\nrelation x: user\nrelation y: user\npermission p = x - y\n"
                             "relation z: user\npermission q = z - p")
        x, y, z = [("doc:a", name, "user:u") for name in "xyz"]
        question = ("doc:a", "q", "user:u")
        self.assertEqual(giving(schema, [z], [x, y], *question), [])
        self.assertEqual(giving(schema, [x], [y, z], *question), [y, z])
        self.assertEqual(giving(schema, [x, z], [y], *question), [y])

    def test_12_and_13_candidates(self):
        self.assert_given([OWNER], [], OWNER, *owners(11))
        self.assert_given(None, [], *owners(12))
        for relationships in ([], [OWNER], owners(3)):
            self.assert_refused("too many to try", -1, giving, SCHEMA, relationships, owners(13), *QUESTION)

    def test_more_than_12_relationships(self):
        self.assert_given([OWNER], owners(30), OWNER, GUEST, *owners(2), question=("doc:a", "owner", "user:u"))

    def test_errors(self):
        bad = ("doc:a", "owner", "doc:b")
        many = owners(13)
        wrong = ("x:a", "no", "user:u")
        self.assert_refused("relationship does not conform", 1, giving, SCHEMA, [OWNER, bad], [bad, *many], *wrong)
        self.assert_refused("duplicate relationship", -1, giving, SCHEMA, [OWNER, OWNER], [bad, *many], *wrong)
        self.assert_refused("relationship does not conform", 13, giving, SCHEMA, [OWNER], [*many, bad, bad], *wrong)
        self.assert_refused("duplicate relationship", -1, giving, SCHEMA, [OWNER], [*many, many[3]], *wrong)
        self.assert_refused("unknown type", -1, giving, SCHEMA, [OWNER], many, *wrong)
        self.assert_refused("unknown name", -1, giving, SCHEMA, [OWNER], many, "doc:a", "no", "user:u")
        self.assert_refused("too many to try", -1, giving, SCHEMA, [OWNER], many, *QUESTION)


class AnyTest(RaisingTest):
    def question(self, rng, schema, rows):
        """A question that is answered with yes by all rows, perhaps in many steps, or any one."""
        ranks = Model(schema, rows).ranks
        if ranks and rng.random() < 0.9:
            highest = max(ranks.values()) if rng.random() < 0.3 else 1
            return rng.choice([grant for grant in sorted(ranks) if ranks[grant] >= highest])
        kind, name = rng.choice([(kind, entry[0]) for kind, entries in schema for entry in entries])
        return (f"{kind}:{rng.choice('ab')}", name, f"user:{rng.choice('ab')}")

    def test_any_relationships(self):
        rng = random.Random(43)
        sizes = set()
        for _ in range(200):
            schema = random_schema(rng)
            rows = random_relationships(rng, schema, 9)
            split = rng.randint(0, len(rows) // 2)
            question = self.question(rng, schema, rows)
            given = copy.deepcopy((rows, rows[:split], rows[split:]))

            def granted(chosen):
                return question in Model(schema, sorted(chosen)).ranks

            left_out = None
            if granted(rows):
                left_out = least_choice(rows, lambda out: not granted(set(rows) - set(out)))
            self.assertEqual(revoking(schema, given[0], *question), left_out)
            added = least_choice(rows[split:], lambda more: granted(rows[:split] + more))
            self.assertEqual(giving(schema, given[1], given[2], *question), added)
            self.assertEqual(given, (rows, rows[:split], rows[split:]))
            sizes |= {("out", len(left_out or [])), ("in", -1 if added is None else len(added))}
        wanted = {("out", 0), ("out", 1), ("out", 2), ("in", -1), ("in", 0), ("in", 1), ("in", 2)}
        self.assertLessEqual(wanted, sizes)
