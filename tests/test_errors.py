"""Point 4: the errors and what they tell."""

import unittest

from authsync.errors import AuthError, BadFeed, BadSchema, Refused


class ErrorsTest(unittest.TestCase):
    def test_all_derive_from_the_base_class(self):
        self.assertTrue(issubclass(AuthError, ValueError))
        for kind in (BadSchema, BadFeed, Refused):
            self.assertTrue(issubclass(kind, AuthError))
        self.assertFalse(issubclass(BadFeed, BadSchema) or issubclass(BadSchema, BadFeed))
        self.assertFalse(issubclass(Refused, (BadFeed, BadSchema)))

    def test_faults_in_texts_tell_the_line_and_what(self):
        for kind in (BadSchema, BadFeed):
            fault = kind(3, "syntax error")
            self.assertEqual((fault.line, fault.what), (3, "syntax error"))
            self.assertEqual(kind(0, "x").line, 0)

    def test_refused_tells_what_and_index(self):
        refused = Refused("duplicate relationship", 4)
        self.assertEqual((refused.what, refused.index), ("duplicate relationship", 4))
        self.assertEqual(Refused("duplicate relationship", -1).index, -1)
        self.assertEqual(Refused("duplicate relationship").index, -1)

    def test_they_can_be_shown(self):
        self.assertIn("syntax error", str(BadSchema(3, "syntax error")))
        self.assertIn("no request", str(BadFeed(1, "no request")))
        self.assertIn("unknown type", str(Refused("unknown type", -1)))
