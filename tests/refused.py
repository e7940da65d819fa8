"""What the test classes share."""

import unittest

from onereading import errors
from tests.things import no_lists, no_words, wrong_codes


class RefusedTest(unittest.TestCase):

    def refused(self, name, call, *handed_in):
        with self.assertRaises(errors.CodeError) as caught:
            call(*handed_in)
        self.assertIs(type(caught.exception), getattr(errors, name))

    def refuses_wrong_words(self, call, *others):
        """The call takes words first, and refuses wrong ones whatever else is handed in."""
        for words, name in wrong_codes():
            self.refused(name, call, words, *others)
        for thing in no_lists():
            self.refused("BadCode", call, thing, *others)
        for thing in no_words():
            self.refused("BadWord", call, ["a", thing], *others)
            # These words alone would have no wait.
            self.refused("BadWord", call, ["ba", "ab", "a", thing], *others)

    def same_long(self, told, expected):
        # assertEqual would look for the differences of two long lists, for minutes.
        self.assertTrue(told == expected)
