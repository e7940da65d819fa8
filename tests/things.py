"""What the tests share: things of every kind, and a slow count of partings to compare with."""

import itertools


class Hostile:
    """Says that it is a text, a list, a number; fails at whatever else it is asked."""

    def __init__(self, shown_class):
        self.shown_class = shown_class

    def _fail(self, *rest):
        raise RuntimeError("asked")

    __eq__ = __ne__ = __lt__ = __le__ = __gt__ = __ge__ = _fail
    __hash__ = __bool__ = __len__ = __iter__ = __contains__ = __getitem__ = _fail
    __repr__ = __str__ = __format__ = __index__ = __int__ = _fail

    @property
    def __class__(self):
        return self.shown_class


class Unaskable:
    """Fails when it is asked for its class."""

    @property
    def __class__(self):
        raise RuntimeError("asked")


def things():
    """Things of many kinds: no texts, no lists and no whole numbers among them."""
    return [
        None, True, False, 1.0, 0.0, float("nan"), 1j, b"ab", bytearray(b"ab"), ("ab",), (), {"ab"}, set(),
        frozenset(["ab"]), {"ab": 1}, {}, range(2), object(), object, str, len, ValueError("ab"),
        (word for word in ["ab"]), iter(["ab"]), Hostile(str), Hostile(list), Hostile(int), Unaskable(),
    ]


HUGE = 10 ** 6000
NUMBERS = [0, 1, -1, HUGE, -HUGE]
LISTS = [[], ["ab"], [["ab"]]]
LETTERS = "abcdefghijklmnopqrstuvwxyz"

NO_WORDS = [
    "", "a" * 11, "a" * 100, "A", "Z", "aB", "Ba", "aBa", "a b", " ", " ab", "ab ", "ab\n", "\n", "a\tb", "\x00",
    "a1", "1", "_", "a-b", "`", "{", "@", "[", "~", "a.", ".a", "abcdefghiJ", "Abcdefghij", "abcde1ghij",
]


def no_words():
    """Whatever is no word: texts that are none, and things that are no texts."""
    return NO_WORDS + NUMBERS + LISTS + things()


def no_lists():
    """Whatever is no list."""
    return ["", "ab", "AB"] + NUMBERS + things()


def no_numbers():
    """Whatever is no whole number."""
    return ["", "0", "1", "ab"] + LISTS + things()


def wrong_codes():
    """Pairs of wrong words, made anew, and the name of their refusal."""
    return [
        ("ab", "BadCode"), (None, "BadCode"), (("a", "b"), "BadCode"), (Hostile(list), "BadCode"),
        (list(LETTERS[:13]), "Full"), (["a"] * 13, "Full"), ([None] * 13, "Full"),
        (["a", ""], "BadWord"), (["a", "B"], "BadWord"), (["a", None], "BadWord"), ([["a"]], "BadWord"),
        (["a", Hostile(str)], "BadWord"), (["a", "B", "a"], "BadWord"),
        (["a", "b", "a"], "Twice"), (["a", "a", "B"], "Twice"),
    ]


def texts(letters, longest):
    """All texts of these letters up to a length, the shorter ones first."""
    return ["".join(signs) for length in range(longest + 1) for signs in itertools.product(letters, repeat=length)]


def rows_up_to(words, longest):
    """All rows of these words whose joined text has at most this length."""
    found = [[]]
    for row in found:
        found.extend(row + [word] for word in words if len("".join(row + [word])) <= longest)
    return found


def partings(words, text):
    """All partings of a text in their order, found by looking at every row of words."""
    found = [row for row in rows_up_to(words, len(text)) if "".join(row) == text]
    return sorted(found, key=lambda row: [len(word) for word in row])


CODES = [
    [], ["a"], ["aa"], ["b"], ["a", "b"], ["a", "aa"], ["aa", "a"], ["aa", "aaa"], ["ab", "ba"], ["a", "ab", "ba"],
    ["ba", "ab", "a"], ["a", "ab", "bb"], ["aab", "a", "b", "ab"], ["b", "ba", "baab", "aab"], ["bbbb", "bb", "abb"],
    ["aba", "ab", "a", "ba"], ["a", "aa", "aaa", "aaaa"], ["abab", "ab", "aab", "b", "a"],
]
