"""Point 59: expansions, and the subjects that have a name."""

import copy
import random

from model import Model, kind_of, parts_of, random_relationships, random_schema
from raising import RaisingTest

from authsync.expansion import expand, who
from authsync.schema import read_schema

HEAD = "type user\ntype group\nrelation member: user, group, group#member\n"
SCHEMA = read_schema(HEAD + """type doc
relation parent: doc
relation owner: user, group#member
relation banned: user
permission edit = owner | parent.edit
permission view = edit & owner - banned""")


def relation(target, name, direct=(), others=()):
    return ("relation", target, name, tuple(direct), tuple(others))


def member(letter, direct=(), others=()):
    return relation(f"group:{letter}", "member", direct, others)


def owner(target, direct=(), others=()):
    return relation(target, "owner", direct, others)


class ExpandTest(RaisingTest):
    def assert_expanded(self, wanted, rows, target, name, schema=SCHEMA):
        for given in (list(rows), list(reversed(rows)), sorted(rows)):
            before = list(given)
            self.assertEqual(expand(schema, given, target, name), wanted)
            self.assertEqual(given, before)

    def test_a_relation_without_relationships(self):
        self.assert_expanded(owner("doc:a"), [], "doc:a", "owner")
        self.assert_expanded(owner("doc:a"), [("doc:b", "owner", "user:u"), ("doc:a", "banned", "user:u")], "doc:a", "owner")

    def test_direct_subjects(self):
        rows = [("doc:a", "owner", f"user:{letter}") for letter in "cab"] + [("doc:b", "owner", "user:d")]
        self.assert_expanded(owner("doc:a", ["user:a", "user:b", "user:c"]), rows, "doc:a", "owner")

    def test_groups(self):
        rows = [("doc:a", "owner", "group:h#member"), ("doc:a", "owner", "user:u"), ("doc:a", "owner", "group:g#member"),
                ("group:g", "member", "user:w"), ("group:g", "member", "user:v"), ("group:g", "member", "group:i#member")]
        wanted = owner("doc:a", ["user:u"], [member("g", ["user:v", "user:w"], [member("i")]), member("h")])
        self.assert_expanded(wanted, rows, "doc:a", "owner")

    def test_an_object_alone_is_not_expanded(self):
        rows = [("group:g", "member", "group:h"), ("group:h", "member", "user:u"), ("group:g", "member", "user:w"),
                ("group:g", "member", "group:h#member")]
        wanted = member("g", ["group:h", "user:w"], [member("h", ["user:u"])])
        self.assert_expanded(wanted, rows, "group:g", "member")

    def test_the_order_of_the_references(self):
        schema = read_schema("type b\nrelation m: b\nrelation n: b\ntype a\nrelation m: a\ntype doc\nrelation r: b#n, b#m, a#m")
        references = ["b:x1#m", "b:x#n", "b:x_#m", "a:y#m", "b:x#m", "b:xx#n"]
        rows = [("doc:a", "r", reference) for reference in references]
        others = [relation(*reference.split("#")) for reference in sorted(references)]
        self.assertEqual([f"{one[1]}#{one[2]}" for one in others], ["a:y#m", "b:x#m", "b:x#n", "b:x1#m", "b:x_#m", "b:xx#n"])
        self.assert_expanded(relation("doc:a", "r", [], others), rows, "doc:a", "r", schema)

    def test_permissions_with_each_operator(self):
        schema = read_schema(HEAD + "type doc\nrelation a: user\nrelation b: user\nrelation c: user\nrelation d: user\n"
                             "permission p = b | a - c & d")
        rows = [("doc:x", name, f"user:{name}") for name in "abcd"]
        leaves = {name: (relation("doc:x", name, [f"user:{name}"]),) for name in "abcd"}
        terms = (("", leaves["b"]), ("|", leaves["a"]), ("-", leaves["c"]), ("&", leaves["d"]))
        self.assert_expanded(("permission", "doc:x", "p", terms), rows, "doc:x", "p", schema)

    def test_terms_with_a_relation(self):
        rows = [("doc:a", "parent", "doc:c"), ("doc:a", "parent", "doc:b"), ("doc:b", "owner", "user:u")]
        above = [
            ("permission", target, "edit", (("", (owner(target, direct),)), ("|", ())))
            for target, direct in (("doc:b", ["user:u"]), ("doc:c", []))
        ]
        wanted = ("permission", "doc:a", "edit", (("", (owner("doc:a"),)), ("|", tuple(above))))
        self.assert_expanded(wanted, rows, "doc:a", "edit")

    def test_terms_lead_only_to_objects_whose_type_has_the_name(self):
        schema = read_schema("type user\ntype group\nrelation see: user, group#see\ntype doc\nrelation of: user, group, group#see\n"
                             "permission p = of.see | of")
        rows = [("doc:a", "of", "user:u"), ("doc:a", "of", "group:h"), ("doc:a", "of", "group:g"), ("doc:a", "of", "group:i#see")]
        see = [relation(f"group:{letter}", "see") for letter in "ghi"]
        of = relation("doc:a", "of", ["group:g", "group:h", "user:u"], see[2:])
        wanted = ("permission", "doc:a", "p", (("", tuple(see[:2])), ("|", (of,))))
        self.assert_expanded(wanted, rows, "doc:a", "p", schema)

    def test_pairs_that_stand_above_themselves(self):
        rows = [("group:g", "member", "group:g#member")]
        self.assert_expanded(member("g", [], [("above", "group:g", "member")]), rows, "group:g", "member")
        rows = [("group:g", "member", "group:h#member"), ("group:h", "member", "group:g#member"),
                ("group:h", "member", "group:h#member"), ("group:h", "member", "group:i#member")]
        inner = member("h", [], [("above", "group:g", "member"), ("above", "group:h", "member"), member("i")])
        self.assert_expanded(member("g", [], [inner]), rows, "group:g", "member")

    def test_a_pair_that_stands_above_one_place_only(self):
        rows = [("group:g", "member", "group:h#member"), ("group:g", "member", "group:i#member"),
                ("group:h", "member", "group:i#member"), ("group:i", "member", "group:h#member")]
        first = member("h", [], [member("i", [], [("above", "group:h", "member")])])
        second = member("i", [], [member("h", [], [("above", "group:i", "member")])])
        self.assert_expanded(member("g", [], [first, second]), rows, "group:g", "member")

    def test_permissions_that_stand_above_themselves(self):
        rows = [("doc:a", "parent", "doc:b"), ("doc:b", "parent", "doc:a"), ("doc:b", "parent", "doc:b")]
        inner = ("permission", "doc:b", "edit", (
            ("", (owner("doc:b"),)), ("|", (("above", "doc:a", "edit"), ("above", "doc:b", "edit"))),
        ))
        wanted = ("permission", "doc:a", "edit", (("", (owner("doc:a"),)), ("|", (inner,))))
        self.assert_expanded(wanted, rows, "doc:a", "edit")
        schema = read_schema("type doc\nrelation r: doc\npermission p = q | r\npermission q = p | p & r")
        leaf, above = relation("doc:a", "r", ["doc:a"]), ("above", "doc:a", "p")
        q = ("permission", "doc:a", "q", (("", (above,)), ("|", (above,)), ("&", (leaf,))))
        wanted = ("permission", "doc:a", "p", (("", (q,)), ("|", (leaf,))))
        self.assert_expanded(wanted, [("doc:a", "r", "doc:a")], "doc:a", "p", schema)

    def test_equal_trees(self):
        rows = [("doc:a", "owner", "user:u")]
        edit = ("permission", "doc:a", "edit", (("", (owner("doc:a", ["user:u"]),)), ("|", ())))
        terms = (("", (edit,)), ("&", (owner("doc:a", ["user:u"]),)), ("-", (relation("doc:a", "banned"),)))
        self.assert_expanded(("permission", "doc:a", "view", terms), rows, "doc:a", "view")
        rows = [(f"group:{one}", "member", f"group:{other}#member") for one, other in ("gh", "gi", "hj", "ij")]
        below = [member(letter, [], [member("j")]) for letter in "hi"]
        self.assert_expanded(member("g", [], below), rows, "group:g", "member")

    def test_more_equal_trees_than_could_be_counted(self):
        schema = read_schema("type doc\nrelation up: doc\npermission p = up.p | up.p | up.p | up")
        rows = [(f"doc:{number}", "up", f"doc:{number + 1}") for number in range(40)]
        tree = expand(schema, rows, "doc:0", "p")
        for number in range(40):
            kind, target, name, terms = tree
            self.assertEqual((kind, target, name), ("permission", f"doc:{number}", "p"))
            self.assertEqual([operator for operator, _ in terms], ["", "|", "|", "|"])
            self.assertEqual(terms[3][1], (relation(f"doc:{number}", "up", [f"doc:{number + 1}"]),))
            tree = terms[number % 3][1][0]
        self.assertEqual(tree, ("permission", "doc:40", "p", (("", ()), ("|", ()), ("|", ()), ("|", (relation("doc:40", "up"),)))))

    def test_more_ways_to_equal_trees_than_could_be_counted(self):
        schema = read_schema("type doc\nrelation up: doc\npermission p = up.p | up.q\npermission q = up.q & up.p")
        rows = [(f"doc:{number}", "up", f"doc:{number + 1}") for number in range(40)]
        rng = random.Random(40)
        tree = expand(schema, rows, "doc:0", "p")
        for number in range(40):
            kind, target, name, terms = tree
            self.assertEqual((kind, target, name in "pq", len(terms)), ("permission", f"doc:{number}", True, 2))
            self.assertEqual([trees[0][2] for _, trees in terms], ["p", "q"] if name == "p" else ["q", "p"])
            tree = rng.choice(terms)[1][0]
        self.assertEqual(tree[3], (("", ()), ("|" if tree[2] == "p" else "&", ())))

    def test_a_deep_tree(self):
        rows = [(f"group:{number}", "member", f"group:{number + 1}#member") for number in range(500)]
        tree = expand(SCHEMA, rows, "group:0", "member")
        for number in range(500):
            self.assertEqual(tree[:4], ("relation", f"group:{number}", "member", ()))
            tree = tree[4][0]
        self.assertEqual(tree, member(500))

    def test_any_expansions(self):
        rng = random.Random(59)
        kinds = {"relation": 0, "permission": 0, "above": 0}
        for _ in range(150):
            schema = random_schema(rng)
            rows = random_relationships(rng, schema, 7)
            for kind, name in [(kind, entry[0]) for kind, entries in schema for entry in entries]:
                pair = (f"{kind}:{rng.choice('ab')}", name)
                wanted = model_tree(schema, rows, pair, (), [4000])
                if wanted is not None:
                    given = copy.deepcopy((schema, rows))
                    self.assertEqual(expand(*given, *pair), wanted)
                    self.assertEqual(given, (schema, rows))
                    for word in kinds:
                        kinds[word] += repr(wanted).count(f"'{word}'")
        self.assertGreater(min(kinds.values()), 200)


class WhoTest(RaisingTest):
    def assert_who(self, wanted, rows, target, name):
        for given in (list(rows), list(reversed(rows))):
            self.assertEqual(who(SCHEMA, given, target, name), wanted)

    def test_none(self):
        self.assert_who([], [], "doc:a", "view")
        self.assert_who([], [("doc:b", "owner", "user:u")], "doc:a", "view")
        self.assert_who([], [("doc:a", "owner", "group:g#member")], "doc:a", "owner")

    def test_subjects(self):
        rows = [("doc:a", "owner", "user:v"), ("doc:a", "owner", "group:g#member"), ("group:g", "member", "user:u"),
                ("group:g", "member", "group:h"), ("doc:a", "banned", "user:u"), ("doc:b", "parent", "doc:a")]
        self.assert_who(["group:h", "user:u", "user:v"], rows, "doc:a", "owner")
        self.assert_who(["group:h", "user:v"], rows, "doc:a", "view")
        self.assert_who(["group:h", "user:u", "user:v"], rows, "doc:b", "edit")
        self.assert_who([], rows, "doc:b", "view")
        self.assert_who(["doc:a"], rows, "doc:b", "parent")

    def test_the_list_is_new(self):
        rows = [("doc:a", "owner", "user:v")]
        who(SCHEMA, rows, "doc:a", "owner").clear()
        self.assertEqual((who(SCHEMA, rows, "doc:a", "owner"), rows), (["user:v"], [("doc:a", "owner", "user:v")]))

    def test_any_subjects(self):
        rng = random.Random(60)
        sizes = set()
        for _ in range(80):
            schema = random_schema(rng)
            rows = random_relationships(rng, schema, 10)
            table = Model(schema, rows).ranks
            for kind, name in [(kind, entry[0]) for kind, entries in schema for entry in entries]:
                target = f"{kind}:{rng.choice('ab')}"
                found = who(schema, rows, target, name)
                self.assertEqual(found, sorted(subject for one, part, subject in table if (one, part) == (target, name)))
                sizes.add(len(found))
        self.assertLessEqual({0, 1, 2, 3}, sizes)


class ErrorsTest(RaisingTest):
    def test_errors(self):
        good, bad = ("doc:a", "owner", "user:u"), ("doc:a", "owner", "doc:b")
        for call in (who, expand):
            self.assert_refused("relationship does not conform", 1, call, SCHEMA, [good, bad, good], "page:a", "no")
            self.assert_refused("duplicate relationship", -1, call, SCHEMA, [good, good], "page:a", "no")
            self.assert_refused("unknown type", -1, call, SCHEMA, [good], "page:a", "no")
            self.assert_refused("unknown type", -1, call, SCHEMA, [good], "page:a", "owner")
            self.assert_refused("unknown name", -1, call, SCHEMA, [good], "doc:a", "no")
            self.assert_refused("unknown name", -1, call, SCHEMA, [good], "user:u", "owner")
            self.assert_refused("unknown type", -1, call, read_schema(""), [], "doc:a", "owner")


def model_tree(schema, rows, pair, above, left):
    """The tree of a pair by following point 59 word for word; None if it has more parts than are left."""
    left[0] -= 1
    if left[0] < 0:
        return None
    if pair in above:
        return ("above", *pair)
    target, name = pair
    _, word, parts = parts_of(schema, kind_of(target), name)
    led = sorted(row[2] for row in rows if row[:2] == pair)

    def trees(pairs):
        return tuple(model_tree(schema, rows, one, (*above, pair), left) for one in pairs)

    if word == "relation":
        others = [tuple(reference.split("#")) for reference in led if "#" in reference]
        tree = ("relation", target, name, tuple(one for one in led if "#" not in one), trees(others))
    else:
        terms = []
        for operator, through, part in parts:
            objects = [row[2] for row in rows if row[:2] == (target, through) and "#" not in row[2]]
            objects = [one for one in sorted(objects) if parts_of(schema, kind_of(one), part)] if through else [target]
            terms.append((operator, trees([(one, part) for one in objects])))
        tree = ("permission", target, name, tuple(terms))
    return None if left[0] < 0 else tree
