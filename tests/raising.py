"""Asserting what an error says."""

import unittest

from authsync.errors import BadFeed, BadSchema, Refused


class RaisingTest(unittest.TestCase):
    def assert_refused(self, what, index, call, *values):
        with self.assertRaises(Refused) as caught:
            call(*values)
        self.assertEqual((caught.exception.what, caught.exception.index), (what, index))

    def assert_bad_schema(self, line, what, call, *values):
        with self.assertRaises(BadSchema) as caught:
            call(*values)
        self.assertEqual((caught.exception.line, caught.exception.what), (line, what))

    def assert_bad_feed(self, line, what, call, *values):
        with self.assertRaises(BadFeed) as caught:
            call(*values)
        self.assertEqual((caught.exception.line, caught.exception.what), (line, what))
