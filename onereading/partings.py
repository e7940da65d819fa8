"""The partings of a text: how many there are, each by its number, and what may still become a text."""

from onereading.errors import NoNumber
from onereading.words import MOST_SIGNS, checked


def counted(words, text):
    """For each place of a text, and for its end, how many partings the text has from there on."""
    return _counts(checked(words), text)


def parting(words, text, number):
    """The parting of a text that has that number."""
    code = checked(words)
    counts = _counts(code, text)
    # The error does not show the number: Python refuses to write out a very long one.
    if type(number) is not int or not 0 <= number < counts[0]:
        raise NoNumber("the text has no parting of that number")
    row = []
    at = 0
    ahead = number
    while at < len(text):
        # The partings that go on with a shorter word are all ahead of those that go on with a longer one.
        for word in _words_at(code, text, at):
            behind = counts[at + len(word)]
            if ahead < behind:
                break
            ahead -= behind
        row.append(word)
        at += len(word)
    return row


def may_begin(words, text):
    """Whether some text of the code begins with the text."""
    code = checked(words)
    reached = _reached(code, text)
    # A word that the end of the text cuts begins at one of the last places.
    last_places = range(max(0, len(text) - MOST_SIGNS), len(text))
    cut = [at for at in last_places if reached[at] and _begins_word(code, text[at:])]
    return reached[len(text)] or len(cut) > 0


def _words_at(code, text, at):
    """The words of a checked code that stand in the text at a place, the shorter ones first."""
    # Of two of them the shorter is the beginning of the longer, so it is ahead in the order of texts, too.
    return [word for word in code if text.startswith(word, at)]


def _counts(code, text):
    """What counted tells, of a checked code."""
    # From the end backwards, so that each place is looked at once, however many partings there are.
    counts = [0] * len(text) + [1]
    for at in reversed(range(len(text))):
        counts[at] = sum([counts[at + len(word)] for word in _words_at(code, text, at)])
    return counts


def _reached(code, text):
    """For each place of the text, and for its end, whether some row is the text up to there."""
    reached = [True] + [False] * len(text)
    for at in range(len(text)):
        if reached[at]:
            for word in _words_at(code, text, at):
                reached[at + len(word)] = True
    return reached


def _begins_word(code, text):
    """Whether some word of a checked code begins with the text."""
    return any([word.startswith(text) for word in code])
