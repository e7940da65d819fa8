"""A reader who gets the signs of a text one by one and tells its words as soon as they are known."""

from onereading.errors import BadSign, NoNumber, NoReading, NoWait
from onereading.partings import may_begin, parting
from onereading.waits import wait
from onereading.words import checked, is_word


class Reader:
    """Reads texts of a code that has a wait."""

    def __init__(self, words):
        self._code = checked(words)
        self._wait = wait(self._code)
        if self._wait is None:
            raise NoWait("the code has no wait")
        self._kept = ""

    def put(self, sign):
        """Takes a sign, and tells the words that are known then."""
        # A word of one sign is a sign.
        if not is_word(sign) or len(sign) != 1:
            raise BadSign("a sign is a letter, a to z")
        kept = self._kept + sign
        told = _known(self._code, self._wait, kept)
        self._kept = kept[len("".join(told)):]
        return told

    def end(self):
        """Tells the words of what is kept, as the text ends here."""
        try:
            told = parting(self._code, self._kept, 0)
        except NoNumber:
            raise NoReading("what is kept is no text of the code") from None
        self._kept = ""
        return told

    def many(self):
        """How many signs are kept."""
        return len(self._kept)


def _known(code, most, kept):
    """The words that are known at the beginning of what is kept, while this is more signs than the wait."""
    told = []
    left = kept
    while len(left) > most:
        first = _first_words(code, left)
        if len(first) == 0:
            raise NoReading("no text of the code begins so")
        # There are never two: they would begin texts that share more signs than the wait.
        word = first[0]
        if len(word) > len(left):
            break
        told.append(word)
        left = left[len(word):]
    return told


def _first_words(code, text):
    """The words with which a row begins whose text begins with the text."""
    return [word for word in code if word.startswith(text) or _goes_on(code, text, word)]


def _goes_on(code, text, word):
    """Whether the text begins with the word, and some text of the code with what follows."""
    return text.startswith(word) and may_begin(code, text[len(word):])
