"""Slow searches, straight by the words of the document, to compare with; and codes small enough for them."""

import itertools

from tests.things import rows_up_to, texts


def small_codes(longest, most):
    """All codes of at most so many words of the letters a and b, each at most so long."""
    words = texts("ab", longest)[1:]
    return [list(code) for many in range(most + 1) for code in itertools.combinations(words, many)]


def slow_least(words, longest):
    """The least of each rest that rows lead to, as far as it is at most this length."""
    ends = {("".join(row), row[0], row[-1]) for row in rows_up_to(words, longest) if row}
    firsts = {}
    for text, first, _ in ends:
        firsts.setdefault(text, set()).add(first)
    found = {}
    for text, first, last in ends:
        for at in range(len(text) - len(last), len(text) + 1):
            if firsts.get(text[:at], set()) - {first}:
                found[text[at:]] = min(found.get(text[at:], len(text)), len(text))
    return found


def shortest_with_two(words, longest):
    """The length of a shortest text with two partings, None where there is none up to a length."""
    seen = set()
    for row in sorted(rows_up_to(words, longest), key=lambda row: len("".join(row))):
        if "".join(row) in seen:
            return len("".join(row))
        seen.add("".join(row))
    return None


def beginnings(found):
    return {text[:length] for text in found for length in range(len(text) + 1)}


def slow_heights(words, rests, longest):
    """The height of each rest, None where it is more than rows up to this length can tell."""
    # Rows that share more than this can be cut so that they still do and are no longer than the longest.
    bound = longest - max(map(len, words), default=0)
    joined = {"".join(row) for row in rows_up_to(words, longest)}
    starts = beginnings(joined)
    heights = {}
    for rest in rests:
        height = max(map(len, starts & beginnings({rest + text for text in joined})))
        heights[rest] = height if height <= bound else None
    return heights


def slow_wait(words, longest):
    """The wait, None where it is more than rows up to this length can tell."""
    bound = longest - max(map(len, words), default=0)
    starts = {word: set() for word in words}
    for row in rows_up_to(words, longest):
        if row:
            starts[row[0]] |= beginnings(["".join(row)])
    both = [starts[word] & starts[other] for word, other in itertools.combinations(words, 2)]
    found = max([len(start) for common in both for start in common], default=0)
    return found if found <= bound else None


class SlowReader:
    """Reads as the document says, by a look at all rows up to a length."""

    def __init__(self, words, wait, longest):
        self.wait = wait
        self.rows = [(row, "".join(row)) for row in rows_up_to(words, longest)]
        self.kept = ""

    def put(self, sign):
        """The words told, or None where the sign is refused."""
        kept = self.kept + sign
        told = []
        while len(kept) > self.wait:
            firsts = {row[0] for row, text in self.rows if text.startswith(kept)}
            assert len(firsts) <= 1
            if not firsts:
                return None
            word = firsts.pop()
            if len(word) > len(kept):
                break
            told.append(word)
            kept = kept[len(word):]
        self.kept = kept
        return told

    def end(self):
        """The words told, or None where the end is refused."""
        found = [row for row, text in self.rows if text == self.kept]
        assert len(found) <= 1
        if not found:
            return None
        self.kept = ""
        return found[0]
