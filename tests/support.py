"""What several test files use."""

import unittest

from lineworks.errors import SourceError


class SourceCase(unittest.TestCase):
    """A test case that can say where and how a source is refused."""

    def refused(self, read, source, line, column, message):
        with self.assertRaises(SourceError, msg=repr(source)) as caught:
            read(source)
        error = caught.exception
        self.assertEqual((error.line, error.column, error.message), (line, column, message), repr(source))

    def refused_at(self, read, source, message):
        """The place of the error is marked by a `~`, which is taken out of the source."""
        offset = source.index("~")
        before = source[:offset].split("\n")
        self.refused(read, source.replace("~", "", 1), len(before), len(before[-1]) + 1, message)
