"""Points 9 and 11: the faults of the texts of schemas, and which one is raised."""

from raising import RaisingTest

from authsync.schema import read_schema


def types(number):
    return "\n".join(f"type t{index}" for index in range(number))


def relations(number):
    return "\n".join(f"relation r{index}: u" for index in range(number))


class SyntaxTest(RaisingTest):
    def assert_syntax_error(self, line, text):
        self.assert_bad_schema(line, "syntax error", read_schema, text)

    def test_lines_of_no_form(self):
        base = "type u\nrelation r: u\n"
        wrong = [
            "u", "type", "typeu", "type u v", "type u:", "type u#r", "type 9", "type _a", "type A", "type " + "a" * 21,
            "Type v", "types v", "relation", "relation q", "relation q:", "relation q: ", "relation q u", "relation: u",
            "relation q = u", "relation q: u,", "relation q: , u", "relation q: u,, u", "relation q: u u",
            "relation q: u#", "relation q: #r", "relation q: u#r#r", "relation q: u.r", "relation q: u | u",
            "relation q: 9", "relation q: u#9", "relation 9: u", "relation q: U", "relation q:: u", "relation q: u;",
            "relation q: u:", "relation q: " + "a" * 21, "relationq: u", "permission", "permission p", "permission p =",
            "permission p: r", "permission p r", "permission = r", "permission p = = r", "permission p = | r",
            "permission p = r |", "permission p = r | | r", "permission p = r r", "permission p = r + r",
            "permission p = r.", "permission p = .r", "permission p = r.r.r", "permission p = r#r", "permission p = r, r",
            "permission p = (r)", "permission p = 9", "permission p = r.9", "permission p = 9.r", "permission 9 = r",
            "permission p = R", "permission p = r =", "permissionp = r", "# type v", ":", "=", "-", "\"",
        ]
        for line in wrong:
            self.assert_syntax_error(3, base + line)
            self.assert_syntax_error(4, base + "\n" + line + "\n???")

    def test_identifiers_of_20_characters_are_taken(self):
        name = "a" * 20
        text = f"type {name}\nrelation {name}: {name}, {name}#{name}"
        self.assertEqual(read_schema(text)[0][0], name)

    def test_what_stands_before_any_type(self):
        self.assert_syntax_error(1, "relation r: u\ntype u")
        self.assert_syntax_error(2, "\npermission p = r\ntype u")

    def test_types(self):
        self.assertEqual(len(read_schema(types(8))), 8)
        self.assert_syntax_error(9, types(9))
        self.assert_syntax_error(9, types(8) + "\ntype t0")

    def test_names_of_a_type(self):
        text = "type u\n" + relations(8)
        self.assertEqual(len(read_schema(text)[0][1]), 8)
        self.assertEqual(len(read_schema(text + "\ntype v\n" + relations(8))[1][1]), 8)
        self.assert_syntax_error(10, text + "\nrelation more: u")
        self.assert_syntax_error(10, text + "\npermission r0 = r0")
        self.assert_syntax_error(19, text + "\ntype v\n" + relations(9))

    def test_names_are_counted_behind_each_type_line(self):
        text = "type u\n" + relations(5) + "\ntype u\n" + relations(5)
        self.assert_bad_schema(7, "duplicate name", read_schema, text)

    def test_subjects(self):
        self.assertEqual(len(read_schema("type u\nrelation r: " + ", ".join(["u"] * 8))[0][1][0][2]), 8)
        self.assert_syntax_error(2, "type u\nrelation r: " + ", ".join(["u"] * 9))

    def test_terms(self):
        text = "type u\nrelation r: u\npermission p = "
        self.assertEqual(len(read_schema(text + " | ".join(["r"] * 16))[0][1][1][2]), 16)
        self.assert_syntax_error(3, text + " | ".join(["r"] * 17))


class DuplicateTest(RaisingTest):
    def assert_duplicate(self, line, text):
        self.assert_bad_schema(line, "duplicate name", read_schema, text)

    def test_duplicate_types_and_names(self):
        self.assert_duplicate(3, "type u\ntype v\ntype u\ntype v")
        self.assert_duplicate(3, "type u\nrelation r: u\nrelation r: u")
        self.assert_duplicate(4, "type u\nrelation r: u\n\npermission r = r")
        self.assert_duplicate(4, "type u\nrelation r: u\npermission p = r\nrelation p: u")

    def test_the_first_line_of_both_kinds_is_told(self):
        self.assert_duplicate(3, "type u\nrelation r: u\nrelation r: u\ntype u")
        self.assert_duplicate(3, "type u\nrelation r: u\ntype u\nrelation r: u\nrelation r: u")


class UnknownTest(RaisingTest):
    def assert_unknown(self, line, text):
        self.assert_bad_schema(line, "unknown name", read_schema, text)

    def test_subjects(self):
        self.assert_unknown(2, "type u\nrelation r: v")
        self.assert_unknown(2, "type u\nrelation r: u, v\nrelation s: w")
        self.assert_unknown(2, "type u\nrelation r: v#r")
        self.assert_unknown(2, "type u\nrelation r: u#s")
        self.assert_unknown(3, "type u\ntype v\nrelation r: u#r")

    def test_terms_without_a_relation(self):
        self.assert_unknown(3, "type u\nrelation r: u\npermission p = q")
        self.assert_unknown(3, "type u\nrelation r: u\npermission p = r | q")
        self.assert_unknown(4, "type u\nrelation r: u\ntype v\npermission p = r")
        self.assert_unknown(3, "type u\nrelation r: u\npermission p = u")

    def test_terms_with_a_relation(self):
        base = "type u\ntype g\nrelation m: u\npermission all = m\ntype d\nrelation r: u, g#m\nrelation s: g, d#r\n"
        self.assertEqual(len(read_schema(base + "permission p = s.all | s.m")[2][1]), 3)
        self.assert_unknown(8, base + "permission p = q.m")
        self.assert_unknown(8, base + "permission p = m.m")
        self.assert_unknown(8, base + "permission p = s.s")
        self.assert_unknown(8, base + "permission p = s.nothing")
        self.assert_unknown(8, base + "permission p = r.m")
        self.assert_unknown(8, base + "permission p = s.r")
        self.assert_unknown(9, base + "permission p = s.m\npermission q = p.m")
        self.assert_unknown(8, base + "permission p = r | s.m & p.m")

    def test_the_types_of_a_relation_can_be_unknown_in_a_later_line(self):
        self.assert_unknown(2, "type u\npermission p = r.q\nrelation r: v")

    def test_the_line_counts_lines_of_spaces(self):
        self.assert_unknown(4, "\n  \ntype u\nrelation r: v")


class RecursionTest(RaisingTest):
    def test_recursion_through_exclusion(self):
        for last in ("p = r - p", "p = r - q\npermission q = p", "p = r - s.p", "p = q\npermission q = r & r - p"):
            text = f"type u\nrelation r: u\nrelation s: u\npermission {last}"
            self.assert_bad_schema(0, "recursion through exclusion", read_schema, text)

    def test_recursion_by_a_relation_with_names(self):
        text = "type u\nrelation r: u, u#p\nrelation s: u\npermission p = s - r"
        self.assert_bad_schema(0, "recursion through exclusion", read_schema, text)

    def test_recursion_without_exclusion(self):
        text = "type u\nrelation r: u, u#p\nrelation s: u\npermission p = p | r & r.p - s"
        self.assertEqual(len(read_schema(text)[0][1]), 3)


class OrderTest(RaisingTest):
    def test_syntax_comes_first(self):
        text = "type u\nrelation r: v\ntype u\n?"
        self.assert_bad_schema(4, "syntax error", read_schema, text)

    def test_a_limit_comes_before_a_duplicate(self):
        self.assert_bad_schema(9, "syntax error", read_schema, "type t0\n" + types(8))

    def test_duplicates_come_before_unknown_names(self):
        text = "type u\nrelation r: v\nrelation s: u\nrelation s: u"
        self.assert_bad_schema(4, "duplicate name", read_schema, text)

    def test_unknown_names_come_before_recursion(self):
        text = "type u\nrelation r: u\npermission p = r - p\npermission q = x"
        self.assert_bad_schema(4, "unknown name", read_schema, text)
