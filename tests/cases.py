"""What the tests of many calls look at."""

import unittest

from inkpaper.desk import judge_scan
from tests.forms import scan_of


class CallCase(unittest.TestCase):
    def assert_scan_answer(self, answer, rows):
        """The answer is the form of the scan with these rows."""
        scan = scan_of(rows)
        self.assertEqual(answer, [0, len(scan)] + scan)
        self.assertEqual(judge_scan(answer[2:]), [0, len(rows[0]), len(rows)])

    def assert_unchanged(self, call, *arguments):
        """The call leaves what it is handed as it was."""
        before = [list(entry) if isinstance(entry, list) else entry for entry in arguments]
        call(*arguments)
        self.assertEqual(list(arguments), before)

    def assert_plain(self, answer):
        """The answer is a list of whole numbers, none of them True or False."""
        self.assertIs(type(answer), list)
        self.assertEqual({type(entry) for entry in answer}, {int})
