"""Points 52, 53 and 54: atoms, names that are apart, and classes."""

import itertools
import random

from model import Model, parts_of, random_relationships, random_schema
from raising import RaisingTest

from authsync.comparing import apart, atoms_of, classes_of, example, is_held
from authsync.schema import names_of, read_schema
from authsync.tables import check_relationships, evaluate

HEAD = "type user\ntype group\nrelation member: user, group#member\ntype doc\nrelation parent: doc\n"
TEXT = HEAD + """relation owner: user, group#member
relation guest: group#member
relation banned: user
permission edit = owner | parent.edit
permission view = edit | guest - banned
permission both = owner & guest"""
SCHEMA = read_schema(TEXT)
OWNER, GUEST, BANNED, PARENT, UP = ("", "owner"), ("", "guest"), ("", "banned"), ("", "parent"), ("parent", "edit")

RECURSIVE = read_schema("""type user
type doc
relation parent: doc
relation owner: user
permission a = owner | b
permission b = a & owner
permission c = owner | c
permission d = parent | a
permission e = owner | parent.e
permission f = parent & owner""")

PLAIN = "type user\ntype doc\nrelation a: user\nrelation b: user\nrelation c: user\n"


def doc_schema(*permissions):
    """A schema with the relations a, b and c, and permissions of the same type."""
    return read_schema(PLAIN + "\n".join(f"permission {one}" for one in permissions))


def wide_schema(number, *permissions):
    """A schema whose type doc has a permission `wide` with a number of atoms by terms with a relation."""
    names = [f"n{index}" for index in range(8)]
    lines = ["type user", *[f"relation {name}: user" for name in names], "type doc", "relation r: user", "relation s: user"]
    terms = [f"{relation}.{name}" for relation in "rs" for name in names][:number]
    return read_schema("\n".join([*lines, "permission wide = " + " | ".join(terms), *permissions]))


class AtomsTest(RaisingTest):
    def test_relations(self):
        self.assertEqual(atoms_of(SCHEMA, "doc", "owner"), [OWNER])
        self.assertEqual(atoms_of(SCHEMA, "doc", "parent"), [PARENT])
        self.assertEqual(atoms_of(SCHEMA, "group", "member"), [("", "member")])

    def test_permissions(self):
        self.assertEqual(atoms_of(SCHEMA, "doc", "both"), [GUEST, OWNER])
        self.assertEqual(atoms_of(SCHEMA, "doc", "edit"), [OWNER, UP])
        self.assertEqual(atoms_of(SCHEMA, "doc", "view"), [BANNED, GUEST, OWNER, UP])

    def test_an_atom_that_occurs_twice_is_told_once(self):
        schema = doc_schema("p = a | b & a", "q = p - a | p")
        self.assertEqual(atoms_of(schema, "doc", "q"), [("", "a"), ("", "b")])

    def test_a_relation_and_a_term_by_it_are_two_atoms(self):
        schema = read_schema(HEAD + "permission p = parent | parent.p | parent.parent")
        self.assertEqual(atoms_of(schema, "doc", "p"), [PARENT, ("parent", "p"), ("parent", "parent")])

    def test_many_ways_to_the_same_atoms(self):
        names = ["a", *[f"p{number}" for number in range(7)]]
        lines = [f"permission {name} = " + " & ".join([below] * 16) for below, name in zip(names, names[1:])]
        schema = read_schema("type user\ntype doc\nrelation a: user\n" + "\n".join(lines))
        self.assertEqual(atoms_of(schema, "doc", "p6"), [("", "a")])
        self.assertTrue(is_held(schema, "doc", "p6", [("", "a")]))
        self.assertIsNone(apart(schema, "doc", "p6", "a"))

    def test_permissions_that_come_back_to_themselves(self):
        for name in "abcd":
            self.assert_refused("recursive permission", -1, atoms_of, RECURSIVE, "doc", name)
        self.assertEqual(atoms_of(RECURSIVE, "doc", "e"), [OWNER, ("parent", "e")])
        self.assertEqual(atoms_of(RECURSIVE, "doc", "f"), [OWNER, PARENT])

    def test_errors(self):
        self.assert_refused("unknown type", -1, atoms_of, SCHEMA, "page", "owner")
        self.assert_refused("unknown type", -1, atoms_of, read_schema(""), "page", "none")
        self.assert_refused("unknown name", -1, atoms_of, SCHEMA, "doc", "member")
        self.assert_refused("unknown name", -1, atoms_of, RECURSIVE, "user", "a")


class HeldTest(RaisingTest):
    def assert_held(self, schema, name, *choices):
        """Assert by which choices of the atoms a, b and c a name holds."""
        for size in range(4):
            for chosen in itertools.combinations("abc", size):
                atoms = [("", letter) for letter in chosen]
                for given in (atoms, list(reversed(atoms))):
                    held = is_held(schema, "doc", name, given)
                    self.assertIs(held, "".join(chosen) in choices, (name, chosen))
                    self.assertEqual(sorted(given), atoms)

    def test_relations(self):
        self.assert_held(doc_schema(), "a", "a", "ab", "ac", "abc")

    def test_each_operator(self):
        schema = doc_schema("p = a | b", "q = a & b", "r = a - b", "s = a")
        self.assert_held(schema, "p", "a", "b", "ab", "ac", "bc", "abc")
        self.assert_held(schema, "q", "ab", "abc")
        self.assert_held(schema, "r", "a", "ac")
        self.assert_held(schema, "s", "a", "ab", "ac", "abc")

    def test_operators_are_applied_from_left_to_right(self):
        schema = doc_schema("p = a | b & c", "q = a - b | c", "r = a & b | c", "s = a | b - c", "t = a - b & c")
        self.assert_held(schema, "p", "ac", "bc", "abc")
        self.assert_held(schema, "q", "a", "c", "ac", "bc", "abc")
        self.assert_held(schema, "r", "c", "ab", "ac", "bc", "abc")
        self.assert_held(schema, "s", "a", "b", "ab")
        self.assert_held(schema, "t", "ac")

    def test_permissions_by_other_permissions(self):
        schema = doc_schema("q = a - p", "p = b | c", "r = p - q", "s = q | r & b")
        self.assert_held(schema, "q", "a")
        self.assert_held(schema, "r", "b", "c", "ab", "ac", "bc", "abc")
        self.assert_held(schema, "s", "b", "ab", "bc", "abc")

    def test_terms_with_a_relation(self):
        for atoms, held in (([UP], True), ([PARENT], False), ([("parent", "view")], False), ([OWNER], True), ([], False)):
            self.assertIs(is_held(SCHEMA, "doc", "edit", atoms), held)
        self.assertTrue(is_held(SCHEMA, "doc", "view", [UP, GUEST]))
        self.assertFalse(is_held(SCHEMA, "doc", "view", [UP, GUEST, BANNED]))

    def test_atoms_of_other_names(self):
        self.assertFalse(is_held(SCHEMA, "doc", "both", [OWNER, BANNED, UP, ("", "both"), ("parent", "both")]))
        self.assertTrue(is_held(SCHEMA, "doc", "both", [OWNER, ("no", "no"), GUEST]))

    def test_any_names(self):
        rng = random.Random(52)
        recursive = 0
        for _ in range(150):
            schema = random_schema(rng)
            for kind, name in [(kind, name) for kind in ("group", "doc") for name in names_of(schema, kind)]:
                wanted = model_atoms(schema, kind, name)
                if wanted is None:
                    self.assert_refused("recursive permission", -1, atoms_of, schema, kind, name)
                    recursive += 1
                    continue
                self.assertEqual(atoms_of(schema, kind, name), wanted)
                for _ in range(6):
                    atoms = rng.sample(wanted, rng.randint(0, len(wanted)))
                    self.assertEqual(is_held(schema, kind, name, atoms), model_held(schema, kind, name, atoms))
        self.assertGreater(recursive, 20)


class ApartTest(RaisingTest):
    def test_apart_by_one_atom(self):
        self.assertEqual(apart(SCHEMA, "doc", "view", "edit"), [GUEST])
        self.assertEqual(apart(SCHEMA, "doc", "edit", "both"), [OWNER])
        self.assertEqual(apart(SCHEMA, "doc", "edit", "owner"), [UP])

    def test_apart_by_several_atoms(self):
        self.assertEqual(apart(SCHEMA, "doc", "edit", "view"), [BANNED, OWNER])
        self.assertEqual(apart(SCHEMA, "doc", "guest", "view"), [BANNED, GUEST])
        self.assertEqual(apart(SCHEMA, "doc", "both", "view"), [BANNED, GUEST, OWNER])
        schema = doc_schema("p = a & b & c", "q = a & b - c")
        self.assertEqual(apart(schema, "doc", "p", "q"), [("", "a"), ("", "b"), ("", "c")])

    def test_not_apart(self):
        for one, other in (("owner", "edit"), ("both", "owner"), ("both", "guest"), ("view", "view"), ("owner", "owner")):
            self.assertIsNone(apart(SCHEMA, "doc", one, other))

    def test_the_least_of_several_lists(self):
        schema = doc_schema("p = c | b | a", "q = a & b & c", "r = a & c | b & c", "s = b - b")
        self.assertEqual(apart(schema, "doc", "p", "q"), [("", "a")])
        self.assertEqual(apart(schema, "doc", "p", "r"), [("", "a")])
        self.assertEqual(apart(schema, "doc", "r", "q"), [("", "a"), ("", "c")])
        self.assertEqual(apart(schema, "doc", "p", "s"), [("", "a")])
        self.assertIsNone(apart(schema, "doc", "s", "p"))

    def test_the_fewest_come_before_the_least(self):
        schema = doc_schema("p = a & b | c", "q = a & b & c")
        self.assertEqual(apart(schema, "doc", "p", "q"), [("", "c")])

    def test_atoms_of_the_second_name_alone(self):
        schema = doc_schema("p = a", "q = a - b - c", "r = b | c & a")
        self.assertEqual(apart(schema, "doc", "p", "q"), [("", "a"), ("", "b")])
        self.assertEqual(apart(schema, "doc", "p", "r"), [("", "a")])

    def test_12_and_13_atoms(self):
        schema = wide_schema(12, "permission less = wide - wide", "permission also = s | wide", "permission seven = "
                             + " | ".join([f"r.n{index}" for index in range(7)]))
        self.assertIsNone(apart(schema, "doc", "wide", "wide"))
        self.assertEqual(apart(schema, "doc", "wide", "less"), [("r", "n0")])
        self.assertEqual(apart(schema, "doc", "wide", "seven"), [("r", "n7")])
        self.assertIsNone(apart(schema, "doc", "seven", "wide"))
        for one, other in (("wide", "s"), ("s", "wide"), ("also", "also"), ("also", "wide"), ("r", "also"), ("wide", "r")):
            self.assert_refused("too many to try", -1, apart, schema, "doc", one, other)
        schema = wide_schema(13)
        self.assert_refused("too many to try", -1, apart, schema, "doc", "wide", "wide")
        self.assertEqual(len(atoms_of(schema, "doc", "wide")), 13)
        self.assertTrue(is_held(schema, "doc", "wide", [("s", "n4")]))
        self.assertIsNone(example(schema, "doc", "wide", "wide", "user"))

    def test_errors(self):
        wide = wide_schema(13, "permission loop = wide | loop")
        self.assert_refused("recursive permission", -1, apart, wide, "doc", "wide", "loop")
        for call, more in ((apart, ()), (example, ("user",)), (example, ("nobody",))):
            for one, other, what in (
                ("no", "no", "unknown name"), ("owner", "no", "unknown name"), ("no", "owner", "unknown name"),
                ("a", "no", "recursive permission"), ("no", "a", "unknown name"), ("owner", "a", "recursive permission"),
                ("a", "owner", "recursive permission"), ("d", "d", "recursive permission"), ("e", "c", "recursive permission"),
            ):
                self.assert_refused(what, -1, call, RECURSIVE, "doc", one, other, *more)
            self.assert_refused("unknown type", -1, call, RECURSIVE, "page", "no", "no", *more)
            self.assert_refused("unknown name", -1, call, RECURSIVE, "user", "owner", "owner", *more)

    def test_recursion_by_terms_with_a_relation(self):
        self.assertEqual(apart(RECURSIVE, "doc", "e", "f"), [OWNER])
        self.assertEqual(apart(RECURSIVE, "doc", "f", "e"), None)

    def test_any_names(self):
        rng = random.Random(53)
        found = set()
        for _ in range(120):
            schema = random_schema(rng)
            names = [name for name in names_of(schema, "doc") if model_atoms(schema, "doc", name) is not None]
            for one, other in itertools.product(names, repeat=2):
                atoms = sorted({*model_atoms(schema, "doc", one), *model_atoms(schema, "doc", other)})
                if len(atoms) > 7:
                    continue
                wanted = model_apart(schema, one, other, atoms)
                self.assertEqual(apart(schema, "doc", one, other), wanted)
                found.add(-1 if wanted is None else len(wanted))
                if wanted is None:
                    self.check_contained(rng, schema, one, other)
        self.assertLessEqual({-1, 1, 2}, found)

    def check_contained(self, rng, schema, one, other):
        """Assert that each subject that has the first name on an object has the second one, too."""
        table = Model(schema, random_relationships(rng, schema, 8)).ranks
        for target, name, subject in table:
            if target.startswith("doc:") and name == one:
                self.assertIn((target, other, subject), table)


class ExampleTest(RaisingTest):
    def test_relations_that_admit_objects_of_the_type(self):
        self.assertEqual(example(SCHEMA, "doc", "edit", "both", "user"), [("doc:x", "owner", "user:y")])
        wanted = [("doc:x", "banned", "user:y"), ("doc:x", "owner", "user:y")]
        self.assertEqual(example(SCHEMA, "doc", "edit", "view", "user"), wanted)
        self.assertEqual(example(SCHEMA, "group", "member", "member", "user"), None)
        self.assertEqual(example(SCHEMA, "doc", "parent", "view", "doc"), [("doc:x", "parent", "doc:y")])

    def test_relations_that_do_not_admit_objects_of_the_type(self):
        self.assertEqual(apart(SCHEMA, "doc", "view", "edit"), [GUEST])
        for kind in ("user", "group", "doc", "nobody"):
            self.assertIsNone(example(SCHEMA, "doc", "view", "edit", kind))
        self.assertIsNone(example(SCHEMA, "doc", "owner", "guest", "group"))
        self.assertIsNone(example(SCHEMA, "doc", "edit", "both", "doc"))

    def test_atoms_with_a_relation_are_left_out(self):
        self.assertEqual(apart(SCHEMA, "doc", "edit", "owner"), [UP])
        self.assertIsNone(example(SCHEMA, "doc", "edit", "owner", "user"))

    def test_a_longer_list_that_admits_the_type(self):
        text = "type user\ntype group\ntype doc\nrelation a: group\nrelation b: user\nrelation c: user, group\n"
        schema = read_schema(text + "permission p = b & c | a\npermission q = a & b & c")
        self.assertEqual(apart(schema, "doc", "p", "q"), [("", "a")])
        wanted = [("doc:x", "b", "user:y"), ("doc:x", "c", "user:y")]
        self.assertEqual(example(schema, "doc", "p", "q", "user"), wanted)
        self.assertEqual(example(schema, "doc", "p", "q", "group"), [("doc:x", "a", "group:y")])

    def test_names_that_are_not_apart(self):
        for one, other in (("owner", "edit"), ("both", "owner"), ("view", "view")):
            self.assertIsNone(example(SCHEMA, "doc", one, other, "user"))

    def test_any_examples(self):
        rng = random.Random(54)
        sizes = set()
        for _ in range(120):
            schema = random_schema(rng)
            names = [name for name in names_of(schema, "doc") if model_atoms(schema, "doc", name) is not None]
            for one, other in itertools.product(names, repeat=2):
                kind = rng.choice(["user", "group", "doc"])
                atoms = {*model_atoms(schema, "doc", one), *model_atoms(schema, "doc", other)}
                direct = [atom for atom in sorted(atoms) if atom[0] == "" and self.admits(schema, atom[1], kind)]
                wanted = model_apart(schema, one, other, direct)
                found = example(schema, "doc", one, other, kind)
                if wanted is None:
                    self.assertIsNone(found)
                    continue
                self.assertEqual(found, [("doc:x", name, f"{kind}:y") for _, name in wanted])
                check_relationships(schema, found)
                table = evaluate(schema, found)
                self.assertIn(("doc:x", one, f"{kind}:y"), table)
                self.assertNotIn(("doc:x", other, f"{kind}:y"), table)
                sizes.add(len(found))
        self.assertLessEqual({1, 2}, sizes)

    def admits(self, schema, relation, kind):
        return (kind, "") in parts_of(schema, "doc", relation)[2]


class ClassesTest(RaisingTest):
    def test_classes_of_one_name(self):
        wanted = [["parent"], ["owner"], ["guest"], ["banned"], ["edit"], ["view"], ["both"]]
        self.assertEqual(classes_of(SCHEMA, "doc"), wanted)
        self.assertEqual(classes_of(SCHEMA, "group"), [["member"]])

    def test_classes_of_several_names(self):
        schema = doc_schema("p = b | a", "q = a & b | a | b", "r = a & a", "s = c - c", "t = p - p")
        self.assertEqual(classes_of(schema, "doc"), [["a", "r"], ["b"], ["c"], ["p", "q"], ["s", "t"]])

    def test_a_name_that_is_contained_in_another_is_of_another_class(self):
        self.assertEqual(classes_of(doc_schema("p = a | b", "q = a & b"), "doc"), [["a"], ["b"], ["c"], ["p"], ["q"]])

    def test_a_type_without_names(self):
        self.assertEqual(classes_of(SCHEMA, "user"), [])

    def test_recursive_permissions(self):
        self.assert_refused("recursive permission", -1, classes_of, RECURSIVE, "doc")
        self.assertEqual(classes_of(RECURSIVE, "user"), [])
        schema = read_schema("type user\ntype doc\nrelation a: doc\npermission p = a | a.p")
        self.assertEqual(classes_of(schema, "doc"), [["a"], ["p"]])
        wide = wide_schema(13, "permission loop = r | loop")
        self.assert_refused("recursive permission", -1, classes_of, wide, "doc")

    def test_12_and_13_atoms(self):
        terms = "permission again = " + " | ".join(f"r.n{index}" for index in range(7, -1, -1))
        self.assertEqual(classes_of(wide_schema(8, terms), "doc"), [["r"], ["s"], ["wide", "again"]])
        self.assertEqual(classes_of(wide_schema(11, terms), "doc"), [["r"], ["s"], ["wide"], ["again"]])
        for number in (12, 13, 16):
            self.assert_refused("too many to try", -1, classes_of, wide_schema(number), "doc")
        self.assert_refused("too many to try", -1, classes_of, wide_schema(11, "permission p = r | s"), "doc")
        self.assertEqual(classes_of(wide_schema(10, "permission p = r | s"), "doc"), [["r"], ["s"], ["wide"], ["p"]])

    def test_names_of_a_class_with_too_many_atoms_for_another_name(self):
        terms = " | ".join([f"r.n{index}" for index in range(8)] + ["t.n0", "t.n1", "t"])
        lines = ["type user", *[f"relation n{index}: user" for index in range(8)], "type doc", "relation r: user",
                 "relation t: user", f"permission p = {terms} & r | r"]
        self.assertEqual(classes_of(read_schema("\n".join(lines)), "doc"), [["r", "p"], ["t"]])
        schema = read_schema("\n".join([*lines, "relation s: user"]))
        self.assertEqual((len(atoms_of(schema, "doc", "p")), apart(schema, "doc", "p", "r")), (12, None))
        self.assert_refused("too many to try", -1, classes_of, schema, "doc")

    def test_more_than_12_atoms_of_more_than_two_names(self):
        more = ["permission p = " + " | ".join(f"r.n{index}" for index in range(8)),
                "permission q = " + " | ".join(f"s.n{index}" for index in range(4)),
                "permission x = " + " | ".join(f"s.n{index}" for index in range(4, 8))]
        schema = wide_schema(1, *more)
        self.assertEqual(classes_of(schema, "doc"), [["r"], ["s"], ["wide"], ["p"], ["q"], ["x"]])

    def test_any_types(self):
        rng = random.Random(55)
        sizes = set()
        for _ in range(120):
            schema = random_schema(rng)
            names = names_of(schema, "doc")
            atoms = [model_atoms(schema, "doc", name) for name in names]
            if None in atoms:
                self.assert_refused("recursive permission", -1, classes_of, schema, "doc")
                continue
            if max(len({*one, *other}) for one in atoms for other in atoms) > 8:
                continue
            found = classes_of(schema, "doc")
            self.assertEqual([one[0] for one in found], [one for one in names if one in [first[0] for first in found]])
            for one, other in itertools.product(names, repeat=2):
                together = [known for known in found if one in known] == [known for known in found if other in known]
                same = apart(schema, "doc", one, other) is None and apart(schema, "doc", other, one) is None
                self.assertEqual(together, same)
            self.assertEqual([sorted(known, key=names.index) for known in found], found)
            sizes |= {len(known) for known in found}
        self.assertLessEqual({1, 2, 3}, sizes)


def model_atoms(schema, kind, name, above=()):
    """The atoms of a name by following its terms, None if a permission comes back to itself."""
    if name in above:
        return None
    _, word, parts = parts_of(schema, kind, name)
    if word == "relation":
        return [("", name)]
    atoms = set()
    for _, relation, part in parts:
        found = [(relation, part)] if relation else model_atoms(schema, kind, part, (*above, name))
        if found is None:
            return None
        atoms |= set(found)
    return sorted(atoms)


def model_held(schema, kind, name, atoms):
    _, word, parts = parts_of(schema, kind, name)
    if word == "relation":
        return ("", name) in atoms
    held = False
    for operator, relation, part in parts:
        holds = (relation, part) in atoms if relation else model_held(schema, kind, part, atoms)
        held = {"": holds, "|": held or holds, "&": held and holds, "-": held and not holds}[operator]
    return held


def model_apart(schema, one, other, atoms):
    for size in range(len(atoms) + 1):
        found = [
            list(chosen)
            for chosen in itertools.combinations(atoms, size)
            if model_held(schema, "doc", one, chosen) and not model_held(schema, "doc", other, chosen)
        ]
        if found:
            return min(found)
    return None
