"""A code whose words are put and taken one by one."""

from onereading.errors import BadWord, Full, NotThere, Twice
from onereading.rests import double, least
from onereading.waits import wait
from onereading.words import MOST_SIGNS, MOST_WORDS, is_word


class Code:
    """A code, without words at first."""

    def __init__(self):
        self._held = []

    def put(self, word):
        """Puts a word into the code."""
        if not is_word(word):
            raise BadWord(f"a word is a text of 1 to {MOST_SIGNS} letters, a to z")
        if word in self._held:
            raise Twice(f"the word {word} is there")
        if len(self._held) >= MOST_WORDS:
            raise Full(f"a code has at most {MOST_WORDS} words")
        self._held = sorted(self._held + [word])

    def take(self, word):
        """Takes a word out of the code."""
        # What is no word is not compared with the words: comparing it may fail by itself.
        if not is_word(word) or word not in self._held:
            raise NotThere("the word is not there")
        self._held.remove(word)

    def words(self):
        """The words of the code, in order."""
        return list(self._held)

    def rests(self):
        """The least of each rest that rows lead to."""
        return least(self._held)

    def two(self):
        """A shortest text with two partings, and both of them; None where there is none."""
        return double(self._held)

    def waiting(self):
        """The wait of the code; None where it has none."""
        return wait(self._held)
