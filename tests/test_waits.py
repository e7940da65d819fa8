import itertools
import unittest

from onereading.rests import double, least, stepped
from onereading.waits import heights, late, ring, wait
from onereading.words import shared
from tests.large import CHAIN, ENDLESS, FAR_DOUBLE, LARGE, LATE, ONE_LETTER, TENS, TWO_LENGTHS
from tests.refused import RefusedTest
from tests.slow import slow_heights, slow_wait, small_codes
from tests.things import CODES

# No wait and no height of these codes is more than 5; with rows of up to 9 signs the slow search can tell up to 6.
SMALL = small_codes(3, 3)
FEW = [[], ["a"], ["b"], ["abcdefghij"]]
WITHOUT_WAIT = [
    ["a", "aa"], ["a", "ab", "ba"], ["aa", "aaa"], ["a", "ab", "bb"], ["ab", "abb", "bb"], ["c", "ca", "aaa"],
    ["b", "ab", "abb", "bc", "a"], ["a", "abab", "ba"], ENDLESS, FAR_DOUBLE, ONE_LETTER, TWO_LENGTHS,
]


def by_the_steps(words, rest, told):
    """The height of a rest from what is told of the others, as the document sums it."""
    found = [0]
    for word in words:
        step = stepped(rest, word)
        if step is None:
            found.append(shared(rest, word))
        elif told[step[0]] is None:
            return None
        else:
            found.append(told[step[0]] + (len(rest) if step[1] else len(word)))
    return max(found)


class HeightsTest(RefusedTest):

    def test_codes_without_rests(self):
        for words in FEW + [["a", "b"], ["ab", "ba"], ["abc", "abd"], TENS]:
            told = heights(words)
            self.assertEqual(told, {})
            self.assertIs(type(told), dict)

    def test_a_rest_that_nothing_shares(self):
        self.assertEqual(heights(["ab", "abb"]), {"b": 0})
        self.assertEqual(heights(["abb", "ab"]), {"b": 0})

    def test_a_word_by_which_it_does_not_go_on(self):
        self.assertEqual(heights(["a", "abca", "bcd"]), {"bca": 2})
        self.assertEqual(heights(["a", "abca", "bcd", "bd"]), {"bca": 2})

    def test_words_that_go_beyond(self):
        self.assertEqual(heights(["a", "abc", "bcd", "de"]), {"bc": 3, "d": 1, "e": 0})

    def test_a_word_that_does_not_go_beyond(self):
        self.assertEqual(heights(["a", "abcd", "b", "cdx"]), {"bcd": 3, "cd": 2, "x": 0})
        self.assertEqual(heights(["a", "abcd", "b", "cx"]), {"bcd": 2, "cd": 1})

    def test_no_height(self):
        self.assertEqual(heights(["a", "aa"]), {"a": None, "": None, "aa": None})
        self.assertEqual(heights(["a", "ab", "bb"]), {"b": None})
        self.assertEqual(heights(["a", "ab", "ba"]), dict.fromkeys(["b", "a", "", "ab", "ba"]))

    def test_rests_with_a_height_beside_rests_without_one(self):
        self.assertEqual(heights(["a", "ab", "bb", "c", "cd"]), {"b": None, "d": 0})
        self.assertEqual(heights(["a", "ab", "bb", "bbd"]), {"b": None, "bd": 1, "d": 0})

    def test_all_small_codes(self):
        for words in SMALL:
            self.assertEqual(heights(words), slow_heights(words, least(words), 9), words)

    def test_codes_of_more_words(self):
        for words in CODES + [["a", "abc", "bcd", "de"], ["ab", "c", "bc", "abcb"], ["a", "abcd", "b", "cdx"]]:
            self.assertEqual(heights(words), slow_heights(words, least(words), 10), words)

    def test_the_rests_are_those_of_least(self):
        for words in SMALL + LARGE + CODES:
            self.assertEqual(heights(words).keys(), least(words).keys())

    def test_large_codes_hold_to_the_steps(self):
        # Each way round shares more, so only the heights are each what the steps sum up from the others.
        for words in LARGE + WITHOUT_WAIT:
            told = heights(words)
            for rest, height in told.items():
                self.assertEqual(height, by_the_steps(words, rest, told), (words, rest))

    def test_whole_numbers(self):
        for words in (LATE, CHAIN, ["a", "abc", "bcd", "de"]):
            for height in heights(words).values():
                self.assertIs(type(height), int)

    def test_told_again_alike_and_the_words_stay(self):
        words = ["bcd", "abc", "a", "de"]
        told = heights(words)
        told["bc"] = 7
        told["x"] = None
        self.assertEqual(heights(words), {"bc": 3, "d": 1, "e": 0})
        self.assertEqual(words, ["bcd", "abc", "a", "de"])
        again = heights(words)
        words.clear()
        self.assertEqual(again, {"bc": 3, "d": 1, "e": 0})
        heights([])["a"] = 1
        self.assertEqual(heights([]), {})

    def test_wrong_words(self):
        self.refuses_wrong_words(heights)


class WaitTest(RefusedTest):

    def told(self, words, expected):
        for order in itertools.islice(itertools.permutations(words), 24):
            number = wait(list(order))
            self.assertEqual(number, expected)
            self.assertIs(type(number), type(expected))

    def test_no_words_and_one_word(self):
        for words in FEW:
            self.told(words, 0)

    def test_two_words(self):
        self.told(["a", "b"], 0)
        self.told(["ab", "ac"], 1)
        self.told(["abcdefghij", "abcdefghik"], 9)
        self.told(["ab", "abb"], 2)
        self.told(["a", "abcdefghij"], 1)
        self.told(["ab", "abc", "ac"], 2)
        self.told(["a", "aa"], None)
        self.told(["ab", "ba"], 0)
        self.told(["ab", "abab"], None)
        self.told(["aba", "ab"], 3)

    def test_the_length_of_the_word_and_the_height_of_the_rest(self):
        self.told(["a", "abca", "bcd"], 3)
        self.told(["a", "abc", "bcd", "de"], 4)
        self.told(["a", "abcd", "b", "cdx"], 4)

    def test_none(self):
        for words in WITHOUT_WAIT:
            self.told(words, None)

    def test_a_code_with_two_partings_of_a_text(self):
        for words in SMALL + LARGE + CODES:
            if double(words) is not None:
                self.assertIsNone(wait(words))

    def test_all_small_codes(self):
        for words in SMALL:
            self.assertEqual(wait(words), slow_wait(words, 9), words)

    def test_codes_of_more_words(self):
        for words in CODES + [["a", "abc", "bcd", "de"], ["ab", "c", "bc", "abcb"], ["a", "abcd", "b", "cdx"]]:
            self.assertEqual(wait(words), slow_wait(words, 10), words)

    def test_large_codes(self):
        self.told(LATE, 110)
        self.told(TENS, 7)
        self.told(CHAIN, 51)

    def test_large_codes_hold_to_the_heights(self):
        for words in LARGE:
            told = heights(words)
            found = [0]
            for word, other in itertools.permutations(words, 2):
                if word.startswith(other):
                    height = told[word[len(other):]]
                    found.append(None if height is None else len(other) + height)
                elif not other.startswith(word):
                    found.append(shared(word, other))
            self.assertEqual(wait(words), None if None in found else max(found))

    def test_the_words_stay(self):
        words = ["bcd", "abc", "a", "de"]
        wait(words)
        self.assertEqual(words, ["bcd", "abc", "a", "de"])

    def test_wrong_words(self):
        self.refuses_wrong_words(wait)


class LateTest(RefusedTest):

    def holds(self, words):
        """What is told are two rows that share the wait, whichever they are."""
        told = late(words)
        self.assertIs(type(told), tuple)
        self.assertEqual(len(told), 2)
        for row in told:
            self.assertIs(type(row), list)
            self.assertLessEqual(set(row), set(words))
        one, other = told
        self.assertNotEqual(one[0], other[0])
        self.assertEqual(shared("".join(one), "".join(other)), wait(words), words)

    def test_no_words_and_one_word(self):
        for words in FEW:
            self.assertIsNone(late(words))

    def test_no_wait(self):
        for words in WITHOUT_WAIT:
            self.refused("NoWait", late, words)

    def test_two_words(self):
        for words in (["a", "b"], ["ab", "ac"], ["ab", "abb"], ["aba", "ab"], ["abcdefghij", "abcdefghik"]):
            self.holds(words)
        self.assertEqual(sorted(late(["ab", "ac"])), [["ab"], ["ac"]])

    def test_the_wait_0(self):
        for words in (["a", "b"], ["a", "b", "c"], ["ab", "ba"]):
            self.assertEqual(wait(words), 0)
            self.holds(words)

    def test_rows_of_several_words(self):
        for words in (["a", "abca", "bcd"], ["a", "abc", "bcd", "de"], ["a", "abcd", "b", "cdx"]):
            self.holds(words)
            self.holds(words[::-1])

    def test_all_small_codes(self):
        for words in SMALL + CODES:
            if len(words) < 2:
                self.assertIsNone(late(words))
            elif wait(words) is None:
                self.refused("NoWait", late, words)
            else:
                self.holds(words)

    def test_large_codes(self):
        for words in (LATE, TENS, CHAIN):
            self.holds(words)

    def test_told_again_alike_and_the_words_stay(self):
        words = ["bcd", "abc", "a", "de"]
        told = late(words)
        expected = [list(row) for row in told]
        for row in told:
            row[0] = "x"
            row.append("y")
        self.assertEqual(list(late(words)), expected)
        self.assertEqual(words, ["bcd", "abc", "a", "de"])
        again = late(words)
        again[0].clear()
        self.assertEqual(again[1], expected[1])
        again = late(words)
        words.clear()
        self.assertEqual(list(again), expected)

    def test_wrong_words(self):
        self.refuses_wrong_words(late)


class RingTest(RefusedTest):

    def holds(self, words):
        """What is told is a ring, whichever it is."""
        told = ring(words)
        self.assertIs(type(told), tuple)
        self.assertEqual(len(told), 4)
        for row in told:
            self.assertIs(type(row), list)
            self.assertLessEqual(set(row), set(words))
        one, other, more, further = told
        self.assertNotEqual(one[0], other[0])
        text, start = "".join(one), "".join(other)
        self.assertTrue(text.startswith(start))
        self.assertLessEqual(len("".join(one[:-1])), len(start))
        rest = text[len(start):]
        self.assertIn(rest, least(words))
        self.assertEqual(rest + "".join(more), "".join(further) + rest)
        self.assertGreater(len(further), 0)
        before = -1
        for times in range(5):
            many = shared("".join(one + more * times), "".join(other + further * times))
            self.assertGreater(many, before)
            self.assertEqual(many, len(start) + times * len("".join(further)))
            before = many

    def test_codes_with_a_wait(self):
        for words in FEW + [["a", "b"], ["ab", "abb"], ["ab", "ba"], ["aba", "ab"], LATE, TENS, CHAIN]:
            self.assertIsNone(ring(words))

    def test_two_partings_of_a_text(self):
        for words in (["a", "aa"], ["a", "ab", "ba"], ["aa", "aaa"], ["abc", "b", "ca", "a", "bcab"]):
            self.assertIsNotNone(double(words))
            self.holds(words)
            self.holds(words[::-1])

    def test_one_reading_and_no_wait_all_the_same(self):
        for words in (["a", "ab", "bb"], ["ab", "abb", "bb"], ["c", "ca", "aaa"], ENDLESS, ["c", "ca", "aa", "aab"]):
            self.assertIsNone(double(words))
            self.holds(words)
            self.holds(words[::-1])

    def test_a_code_with_one_ring_alone(self):
        self.assertEqual(ring(["a", "ab", "bb"]), (["ab"], ["a"], ["bb"], ["bb"]))

    def test_a_ring_behind_rests_that_are_in_none(self):
        words = ["a", "abc", "bcd", "de", "ef", "ff"]
        self.assertEqual(ring(words), (["a", "bcd", "ef"], ["abc", "de"], ["ff"], ["ff"]))

    def test_all_small_codes(self):
        for words in SMALL + CODES + WITHOUT_WAIT:
            if wait(words) is None:
                self.holds(words)
            else:
                self.assertIsNone(ring(words))

    def test_large_codes(self):
        for words in (ENDLESS, FAR_DOUBLE, ONE_LETTER, TWO_LENGTHS):
            self.holds(words)

    def test_told_again_alike_and_the_words_stay(self):
        for words in (["bb", "ab", "a"], ["ba", "ab", "a"], ["c", "ca", "aaa"]):
            kept = list(words)
            told = ring(words)
            expected = [list(row) for row in told]
            for at, row in enumerate(told):
                row.append("x")
                row[0] = "y"
                self.assertEqual([list(later) for later in told[at + 1:]], expected[at + 1:])
            self.assertEqual(list(ring(words)), expected)
            self.assertEqual(words, kept)
            again = ring(words)
            words.clear()
            self.assertEqual(list(again), expected)
            self.assertIsNone(ring(words))

    def test_wrong_words(self):
        self.refuses_wrong_words(ring)


if __name__ == "__main__":
    unittest.main()
