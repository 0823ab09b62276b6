"""Points 8, 9 and 12: the texts of schemas."""

import unittest

from authsync.schema import definition, names_of, read_schema, schema_text

EXAMPLE = "type user\ntype doc\nrelation owner: user\nrelation banned: user\npermission view = owner - banned"
FULL = """type user
type group
  relation member: user, group#member
type doc
  relation parent: doc, group
  relation owner: user, group#member
  permission edit = owner | parent.edit
  permission view = edit & owner - parent.member"""


class ReadingTest(unittest.TestCase):
    def test_the_example(self):
        view = ("view", "permission", (("", "", "owner"), ("-", "", "banned")))
        relations = (("owner", "relation", (("user", ""),)), ("banned", "relation", (("user", ""),)))
        self.assertEqual(read_schema(EXAMPLE), (("user", ()), ("doc", (*relations, view))))

    def test_all_forms(self):
        schema = read_schema(FULL)
        self.assertEqual([kind for kind, _ in schema], ["user", "group", "doc"])
        self.assertEqual(schema[1], ("group", (("member", "relation", (("user", ""), ("group", "member"))),)))
        self.assertEqual(schema[2][1][0], ("parent", "relation", (("doc", ""), ("group", ""))))
        self.assertEqual(schema[2][1][2], ("edit", "permission", (("", "", "owner"), ("|", "parent", "edit"))))
        terms = (("", "", "edit"), ("&", "", "owner"), ("-", "parent", "member"))
        self.assertEqual(schema[2][1][3], ("view", "permission", terms))

    def test_a_first_term_can_have_a_relation(self):
        schema = read_schema("type d\nrelation r: d\npermission p = r.r")
        self.assertEqual(definition(schema, "d", "p"), ("permission", (("", "r", "r"),)))

    def test_spaces_in_every_place_where_they_can_stand(self):
        spaced = """
           type   user
        type group
     relation   member  :  user  ,  group  #  member
   type  doc
 relation parent :doc, group
 relation owner: user ,group #member
   permission   edit  =  owner  |  parent  .  edit
 permission view = edit & owner - parent. member   """.replace("\n", "  \n   \n\n")
        self.assertEqual(read_schema(spaced), read_schema(FULL))

    def test_no_spaces_but_between_words(self):
        tight = FULL.replace("  ", "").replace(": ", ":").replace(", ", ",").replace(" = ", "=")
        for operator in "|&-":
            tight = tight.replace(f" {operator} ", operator)
        self.assertIn("permission view=edit&owner-parent.member", tight)
        self.assertEqual(read_schema(tight), read_schema(FULL))

    def test_texts_without_types(self):
        for text in ("", " ", "\n", "   \n \n"):
            self.assertEqual(read_schema(text), ())

    def test_names_that_are_also_first_words(self):
        text = """type type
  relation relation: type, permission#permission
  relation permission: type
  permission type = relation - permission
type relation
type permission
  relation permission: type
  relation type: permission
  permission relation = type.permission | permission"""
        schema = read_schema(text)
        self.assertEqual(names_of(schema, "type"), ["relation", "permission", "type"])
        self.assertEqual(names_of(schema, "relation"), [])
        terms = (("", "type", "permission"), ("|", "", "permission"))
        self.assertEqual(definition(schema, "permission", "relation"), ("permission", terms))
        self.assertEqual(schema_text(schema), text)

    def test_types_and_names_are_used_before_their_lines(self):
        text = "type doc\npermission see = up.see | view\npermission view = own\nrelation own: user#me\nrelation up: doc, b"
        schema = read_schema(text + "\ntype b\ntype user\nrelation me: user")
        self.assertEqual(names_of(schema, "doc"), ["see", "view", "own", "up"])

    def test_what_is_given_again_among_subjects_and_terms_is_kept(self):
        schema = read_schema("type u\nrelation r: u, u\npermission p = r | r - r")
        self.assertEqual(definition(schema, "u", "r"), ("relation", (("u", ""), ("u", ""))))
        self.assertEqual(definition(schema, "u", "p")[1], (("", "", "r"), ("|", "", "r"), ("-", "", "r")))

    def test_the_same_name_in_two_types(self):
        schema = read_schema("type u\nrelation r: u\ntype v\npermission r = q\nrelation q: u")
        self.assertEqual(definition(schema, "u", "r"), ("relation", (("u", ""),)))
        self.assertEqual(definition(schema, "v", "r"), ("permission", (("", "", "q"),)))

    def test_a_term_can_lead_to_some_of_the_types(self):
        schema = read_schema("type u\ntype g\nrelation m: u\ntype d\nrelation r: u, g#m, g\npermission p = r.m")
        self.assertEqual(definition(schema, "d", "p"), ("permission", (("", "r", "m"),)))


class CanonicalTest(unittest.TestCase):
    def test_canonical_texts(self):
        self.assertEqual(schema_text(read_schema(FULL)), FULL)
        self.assertEqual(schema_text(()), "")
        self.assertEqual(schema_text(read_schema("  type  u ")), "type u")
        self.assertEqual(schema_text(read_schema("type u\nrelation r:u,u#r")), "type u\n  relation r: u, u#r")
        tight = read_schema("type u\nrelation r:u\npermission p=r|r.r&r-r.r")
        self.assertEqual(schema_text(tight), "type u\n  relation r: u\n  permission p = r | r.r & r - r.r")


class LookingUpTest(unittest.TestCase):
    def test_definition(self):
        schema = read_schema(FULL)
        self.assertEqual(definition(schema, "doc", "parent"), ("relation", (("doc", ""), ("group", ""))))
        self.assertEqual(definition(schema, "doc", "edit"), ("permission", (("", "", "owner"), ("|", "parent", "edit"))))
        self.assertIsNone(definition(schema, "doc", "member"))
        self.assertIsNone(definition(schema, "user", "doc"))
        self.assertIsNone(definition(schema, "nothing", "edit"))

    def test_names_of(self):
        schema = read_schema(FULL)
        self.assertEqual(names_of(schema, "doc"), ["parent", "owner", "edit", "view"])
        self.assertEqual(names_of(schema, "user"), [])
        self.assertEqual(names_of(schema, "nothing"), [])

    def test_changes_of_a_returned_list_have_no_effect(self):
        schema = read_schema(FULL)
        names_of(schema, "doc").clear()
        self.assertEqual(names_of(schema, "doc"), ["parent", "owner", "edit", "view"])
