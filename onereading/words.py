"""Words, the check of what is handed in as a code, and how two texts begin."""

from onereading.errors import BadCode, BadWord, Full, Twice

MOST_SIGNS = 10
MOST_WORDS = 12


def is_word(thing):
    """Whether a thing, of any kind, is a word."""
    # The exact class, since an object of another one may lie about its length, its signs or its class.
    if type(thing) is not str:
        return False
    if not 1 <= len(thing) <= MOST_SIGNS:
        return False
    return all("a" <= sign <= "z" for sign in thing)


def checked(words):
    """The words of a code in the order of texts, a new list."""
    if type(words) is not list:
        raise BadCode("the words of a code are handed in as a list")
    if len(words) > MOST_WORDS:
        raise Full(f"a code has at most {MOST_WORDS} words")
    found = []
    for thing in words:
        # No error shows a thing that is no word: showing it may fail by itself.
        if not is_word(thing):
            raise BadWord(f"a word is a text of 1 to {MOST_SIGNS} letters, a to z")
        if thing in found:
            raise Twice(f"the word {thing} stands twice")
        found.append(thing)
    return sorted(found)


def left_of(text, other):
    """The rest of a text behind another one, None where it does not begin with that."""
    if text.startswith(other):
        return text[len(other):]
    return None


def shared(text, other):
    """The greatest length of a text with which both begin."""
    for at, (sign, facing) in enumerate(zip(text, other)):
        if sign != facing:
            return at
    return min(len(text), len(other))
