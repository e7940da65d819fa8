import unittest

from onereading.partings import counted
from onereading.rests import double, least, stepped
from onereading.words import shared
from tests.large import FAR_DOUBLE, LARGE, ONE_LETTER, TENS, TWO_LENGTHS
from tests.refused import RefusedTest
from tests.slow import shortest_with_two, slow_least, small_codes
from tests.things import CODES, partings, texts


class SteppedTest(unittest.TestCase):

    def told(self, rest, word, expected):
        step = stepped(rest, word)
        self.assertEqual(step, expected)
        self.assertIs(type(step), tuple)
        self.assertIs(type(step[0]), str)
        self.assertIs(step[1], expected[1])

    def test_the_rest_longer_than_the_word(self):
        self.told("abc", "ab", ("c", False))
        self.told("aaaa", "a", ("aaa", False))
        self.told("abcabcabcab", "abc", ("abcabcab", False))

    def test_the_rest_shorter_than_the_word(self):
        self.told("ab", "abc", ("c", True))
        self.told("a", "aaaa", ("aaa", True))
        self.told("b", "bcdefghijk", ("cdefghijk", True))

    def test_the_rest_the_same_as_the_word(self):
        self.told("a", "a", ("", False))
        self.told("abcab", "abcab", ("", False))

    def test_the_rest_without_signs(self):
        self.told("", "a", ("a", True))
        self.told("", "abc", ("abc", True))

    def test_neither(self):
        for rest, word in (("a", "b"), ("ab", "b"), ("b", "ab"), ("abc", "abd"), ("abd", "abcd"), ("ba", "aba")):
            self.assertIsNone(stepped(rest, word))

    def test_all_short_texts(self):
        for rest in texts("ab", 4):
            for word in texts("ab", 4)[1:]:
                behind = [left for left in texts("ab", 4) if word + left == rest]
                beyond = [left for left in texts("ab", 4) if rest + left == word]
                if behind:
                    self.told(rest, word, (behind[0], False))
                elif beyond:
                    self.told(rest, word, (beyond[0], True))
                else:
                    self.assertIsNone(stepped(rest, word))


class LeastTest(RefusedTest):

    def test_codes_without_rests(self):
        for words in ([], ["a"], ["aaaa"], ["a", "b"], ["ab", "ba"], ["abc", "abd", "b", "ca"], TENS):
            told = least(words)
            self.assertEqual(told, {})
            self.assertIs(type(told), dict)

    def test_two_words(self):
        self.assertEqual(least(["ab", "abb"]), {"b": 3})
        self.assertEqual(least(["abb", "ab"]), {"b": 3})
        self.assertEqual(least(["a", "abcdefghij"]), {"bcdefghij": 10})

    def test_a_chain_of_words_that_go_beyond(self):
        self.assertEqual(least(["a", "abc", "bcd", "de"]), {"bc": 3, "d": 4, "e": 5})

    def test_a_word_that_does_not_go_beyond(self):
        self.assertEqual(least(["a", "abcd", "b", "cdx"]), {"bcd": 4, "cd": 4, "x": 5})

    def test_the_length_is_that_of_the_text_and_not_of_the_row(self):
        self.assertEqual(least(["c", "cab", "dd", "ddab"]), {"ab": 3})
        self.assertEqual(least(["c", "cx", "ppppp", "pppppab", "xab"]), {"x": 2, "ab": 4})

    def test_rests_that_go_round(self):
        self.assertEqual(least(["a", "ab", "bb"]), {"b": 2})
        self.assertEqual(least(["c", "ca", "aaa"]), {"a": 2, "aa": 4})

    def test_rests_behind_the_rest_without_signs(self):
        self.assertEqual(least(["a", "aa"]), {"a": 2, "": 2, "aa": 4})
        self.assertEqual(least(["a", "ab", "ba"]), {"b": 2, "a": 3, "": 3, "ab": 5, "ba": 5})
        self.assertEqual(least(["b", "bc", "c", "xyz"]), {"c": 2, "": 2, "b": 3, "bc": 4, "xyz": 5})

    def test_all_small_codes(self):
        # No least of these codes is more than 10.
        for words in small_codes(3, 3):
            self.assertEqual(least(words), slow_least(words, 10), words)

    def test_codes_of_more_words(self):
        for words in CODES + [["a", "abc", "bcd", "de"], ["ab", "abba", "ba", "bab", "b"], ["ab", "c", "bc", "abcb"]]:
            found = slow_least(words, 10)
            told = least(words)
            self.assertEqual({rest: told[rest] for rest in told if told[rest] <= 10}, found, words)

    def test_large_codes_hold_to_the_steps(self):
        # As each round makes the text longer, only the leasts are each the least that a step can tell.
        for words in LARGE:
            told = least(words)
            found = {}
            ways = [(word[len(other):], len(word)) for word in words for other in words
                    if word != other and word.startswith(other)]
            for rest, length in told.items():
                for step in [stepped(rest, word) for word in words]:
                    if step:
                        ways.append((step[0], length + len(step[0]) if step[1] else length))
            for rest, length in ways:
                found[rest] = min(found.get(rest, length), length)
            self.assertEqual(told, found)

    def test_whole_numbers(self):
        for words in ([], ["a", "aa"], ["a", "ab", "ba"], FAR_DOUBLE):
            for rest, length in least(words).items():
                self.assertIs(type(rest), str)
                self.assertIs(type(length), int)

    def test_told_again_alike_and_the_words_stay(self):
        words = ["bb", "ab", "a"]
        told = least(words)
        told["b"] = 7
        told["x"] = 1
        self.assertEqual(least(words), {"b": 2})
        self.assertEqual(words, ["bb", "ab", "a"])
        again = least(words)
        words.clear()
        self.assertEqual(again, {"b": 2})
        self.assertEqual(least(words), {})
        least([])["a"] = 1
        self.assertEqual(least([]), {})

    def test_wrong_words(self):
        self.refuses_wrong_words(least)


class DoubleTest(RefusedTest):

    def holds(self, words):
        """What is told is a double, whichever it is; tells its length."""
        told = double(words)
        self.assertIs(type(told), tuple)
        text, ahead, behind = told
        self.assertIs(type(text), str)
        self.assertIs(type(ahead), list)
        self.assertIs(type(behind), list)
        for row in (ahead, behind):
            self.assertEqual("".join(row), text)
            self.assertLessEqual(set(row), set(words))
        self.assertNotEqual(ahead[0], behind[0])
        self.assertLess(len(ahead[0]), len(behind[0]))
        return len(text)

    def test_codes_with_one_reading(self):
        for words in ([], ["a"], ["aa"], ["ab", "ba"], ["a", "b"], ["ab", "abb"], ["a", "ab", "bb"], TENS):
            self.assertIsNone(double(words))

    def test_codes_with_one_shortest_double(self):
        self.assertEqual(double(["a", "aa"]), ("aa", ["a", "a"], ["aa"]))
        self.assertEqual(double(["ba", "ab", "a"]), ("aba", ["a", "ba"], ["ab", "a"]))
        self.assertEqual(double(["aaa", "aa"]), ("aaaaa", ["aa", "aaa"], ["aaa", "aa"]))
        self.assertEqual(double(["abc", "b", "ca", "a", "bcab"]), ("abca", ["a", "b", "ca"], ["abc", "a"]))

    def test_the_one_ahead_is_told_first(self):
        # The one that is ahead has the shorter first word, though it has more or fewer words.
        self.assertEqual(double(["a", "ab", "bcd", "c", "d"]), ("abcd", ["a", "bcd"], ["ab", "c", "d"]))
        self.assertEqual(double(["a", "b", "cd", "abcd"]), ("abcd", ["a", "b", "cd"], ["abcd"]))
        for words in small_codes(3, 3):
            if double(words):
                text, ahead, behind = double(words)
                found = partings(words, text)
                self.assertLess(found.index(ahead), found.index(behind))

    def test_a_shortest_text_of_more_words(self):
        # The double that fewer words lead to has ten signs.
        words = ["ccccc", "ddddd", "cccccddddd", "a", "ab", "bx", "xy", "y"]
        self.assertEqual(double(words), ("abxy", ["a", "bx", "y"], ["ab", "xy"]))

    def test_all_small_codes(self):
        # No shortest text of these codes has more than 7 signs.
        for words in small_codes(3, 3) + small_codes(2, 4):
            length = shortest_with_two(words, 8)
            if length is None:
                self.assertIsNone(double(words), words)
            else:
                self.assertEqual(self.holds(words), length, words)

    def test_codes_of_more_words(self):
        for words in CODES:
            length = shortest_with_two(words, 9)
            if length is None:
                self.assertIsNone(double(words), words)
            else:
                self.assertEqual(self.holds(words), length, words)

    def test_large_codes(self):
        for words in LARGE:
            if "" in least(words):
                self.assertEqual(self.holds(words), least(words)[""])
            else:
                self.assertIsNone(double(words))
        self.assertEqual(self.holds(FAR_DOUBLE), 137)
        self.assertEqual(self.holds(ONE_LETTER), 2)
        self.assertEqual(self.holds(TWO_LENGTHS), 19)

    def test_the_text_has_two_partings(self):
        for words in (["a", "aa"], ["a", "ab", "ba"], TWO_LENGTHS, FAR_DOUBLE):
            text, ahead, behind = double(words)
            self.assertGreaterEqual(counted(words, text)[0], 2)
            # Were the same text parted at a place by both, it would not be a shortest one.
            ends = [{len("".join(row[:many])) for many in range(1, len(row))} for row in (ahead, behind)]
            self.assertEqual(ends[0] & ends[1], set())
            self.assertEqual(shared("".join(ahead), "".join(behind)), len(text))

    def test_told_again_alike_and_the_words_stay(self):
        words = ["ba", "ab", "a"]
        _, ahead, behind = double(words)
        ahead.append("x")
        behind[0] = "y"
        ahead.clear()
        self.assertEqual(behind, ["y", "a"])
        self.assertEqual(double(words), ("aba", ["a", "ba"], ["ab", "a"]))
        self.assertEqual(words, ["ba", "ab", "a"])
        again = double(words)
        words.clear()
        self.assertEqual(again, ("aba", ["a", "ba"], ["ab", "a"]))
        self.assertIsNone(double(words))

    def test_wrong_words(self):
        self.refuses_wrong_words(double)


if __name__ == "__main__":
    unittest.main()
