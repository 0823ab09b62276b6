"""Points 5, 6 and 7: identifiers, objects, references and tokens."""

import unittest

from authsync.names import (
    is_grant, is_identifier, is_object, is_reference, split_reference, split_token, token_of, type_of,
)


class IdentifierTest(unittest.TestCase):
    def test_identifiers(self):
        for text in ("a", "z", "a" * 20, "a0", "a_", "a_9z", "type"):
            self.assertIs(is_identifier(text), True, text)

    def test_other_texts(self):
        for text in ("", "a" * 21, "0a", "_a", "A", "aB", "a-b", "a b", " a", "a ", "a\n", "a:b", "a#b", "a@1", "a.b"):
            self.assertIs(is_identifier(text), False, text)


class ObjectTest(unittest.TestCase):
    def test_objects(self):
        for text in ("user:a", "u:0", "u:_", "u:9_z", "a" * 20 + ":" + "9" * 20):
            self.assertIs(is_object(text), True, text)

    def test_other_texts(self):
        wrong = ("", "user", "user:", ":a", "9:a", "_u:a", "u:A", "u:a:b", "u:a b", "u :a", "u: a", "u:a\n", "u:a#m", "#")
        for text in (*wrong, "a" * 21 + ":a", "a:" + "a" * 21):
            self.assertIs(is_object(text), False, text)

    def test_references(self):
        for text in ("user:a", "group:g#member", "g:_#" + "m" * 20):
            self.assertIs(is_reference(text), True, text)
        wrong = ("", "user", "user#m", "g:g#", "g:g#9", "g:g#_m", "g:g#M", "g:g#m#m", "g:#m", "#m", "g:g #m", "g:g# m")
        for text in (*wrong, "g:g#" + "m" * 21):
            self.assertIs(is_reference(text), False, text)

    def test_grants(self):
        self.assertIs(is_grant("doc:a", "view", "user:u"), True)
        for grant in (("doc", "view", "user:u"), ("doc:a", "View", "user:u"), ("doc:a", "view", "user:u#member")):
            self.assertIs(is_grant(*grant), False, grant)

    def test_parts_of_objects_and_references(self):
        self.assertEqual(type_of("user:type"), "user")
        self.assertEqual(split_reference("user:a"), ("user:a", ""))
        self.assertEqual(split_reference("group:g#member"), ("group:g", "member"))


class TokenTest(unittest.TestCase):
    def test_tokens_and_their_parts(self):
        for store, revision in (("main", 0), ("main", 1), ("a", 10), ("a" * 20, 999), ("main", 1000)):
            text = f"{store}@{revision}"
            self.assertEqual(token_of(store, revision), text)
            self.assertEqual(split_token(text), (store, revision))

    def test_other_texts_are_no_tokens(self):
        wrong = ("", "main", "main@", "@1", "@", "9a@1", "Main@1", "ma in@1", "main@x", "main@1x", "main@1@2")
        for text in (*wrong, "a" * 21 + "@1"):
            self.assertIsNone(split_token(text), text)

    def test_revisions_have_bounds_and_no_leading_zeros(self):
        wrong = ("00", "01", "007", "0001", "00001", "1001", "9999", "10000", "-1", "+1", " 1", "1 ", "1_0", "1\n")
        for digits in (*wrong, "9" * 5000):
            self.assertIsNone(split_token("main@" + digits), digits)
