import itertools
import unittest

from onereading.reader import Reader
from onereading.waits import wait
from tests.large import CHAIN, ENDLESS, FAR_DOUBLE, LATE, ONE_LETTER, TENS
from tests.refused import RefusedTest
from tests.slow import SlowReader, small_codes
from tests.things import HUGE, LETTERS, Hostile, no_words

NO_SIGNS = ["A", "Z", "ab", "aa", "", " ", "1", "`", "{", "a ", "a\n", "abcdefghij", "abcdefghijk"]


class ReaderTest(RefusedTest):

    def puts(self, reader, text):
        """What the reader tells at each sign of the text."""
        return [reader.put(sign) for sign in text]

    def reads(self, words, row):
        """A reader tells just the row, no more and no less, and has nothing behind it."""
        reader = Reader(words)
        self.reads_next(reader, row)

    def reads_next(self, reader, row):
        told = []
        for sign in "".join(row):
            told.extend(reader.put(sign))
            self.assertEqual(told, row[:len(told)])
        told.extend(reader.end())
        self.assertEqual(told, row)
        self.assertEqual(reader.many(), 0)


class MakingTest(ReaderTest):

    def test_a_new_reader_keeps_nothing(self):
        for words in ([], ["a"], ["a", "b"], ["ab", "abb"], LATE):
            reader = Reader(words)
            self.assertEqual(reader.many(), 0)
            self.assertIs(type(reader.many()), int)
            self.assertEqual(reader.end(), [])

    def test_no_wait(self):
        for words in (["a", "aa"], ["ba", "ab", "a"], ["a", "ab", "bb"], ENDLESS, FAR_DOUBLE, ONE_LETTER):
            self.refused("NoWait", Reader, words)

    def test_wrong_words(self):
        self.refuses_wrong_words(Reader)

    def test_the_words_stay_and_are_kept_as_they_were(self):
        words = ["abb", "ab"]
        reader = Reader(words)
        self.assertEqual(words, ["abb", "ab"])
        words.clear()
        self.assertEqual(self.puts(reader, "abab"), [[], [], ["ab"], []])
        words.extend(["a", "b", "abc"])
        self.refused("NoReading", reader.put, "c")
        self.assertEqual(self.puts(reader, "ba"), [["abb"], []])
        self.refused("NoReading", reader.end)
        words[0] = "A"
        self.assertEqual(self.puts(reader, "b"), [[]])
        self.assertEqual(reader.end(), ["ab"])


class PutTest(ReaderTest):

    def test_the_wait_0(self):
        reader = Reader(["a", "b"])
        self.assertEqual(self.puts(reader, "aba"), [["a"], ["b"], ["a"]])
        reader = Reader(["abc", "b", "c"])
        self.assertEqual(self.puts(reader, "babcc"), [["b"], [], [], ["abc"], ["c"]])
        reader = Reader(["abc"])
        self.assertEqual(self.puts(reader, "abcabc"), [[], [], ["abc"], [], [], ["abc"]])

    def test_a_word_is_told_as_soon_as_more_signs_are_kept_than_the_wait(self):
        # The wait is 2.
        reader = Reader(["ab", "abb"])
        self.assertEqual(self.puts(reader, "ababbab"), [[], [], ["ab"], [], ["abb"], [], []])

    def test_a_word_is_told_as_soon_as_all_its_signs_are_kept(self):
        # The wait is 1: with "ba" the word is known, and all its signs are there a while later.
        reader = Reader(["bbbb", "baaaa"])
        self.assertEqual(wait(["bbbb", "baaaa"]), 1)
        self.assertEqual(self.puts(reader, "baaaab"), [[], [], [], [], ["baaaa"], []])
        self.assertEqual(reader.many(), 1)
        self.assertEqual(self.puts(reader, "bbb"), [[], [], ["bbbb"]])

    def test_of_several_words_each_sign_tells_one(self):
        # The wait is 4. Behind one word no more signs are kept than the wait, so no sign tells two words.
        words = ["a", "abc", "bcd", "de"]
        self.assertEqual(self.puts(Reader(words), "abcde"), [[], [], [], [], ["abc"]])
        self.assertEqual(self.puts(Reader(words), "abcda"), [[], [], [], [], ["a"]])
        self.assertEqual(self.puts(Reader(words), "aaaaaaa"), [[], [], [], [], ["a"], ["a"], ["a"]])
        reader = Reader(["abcdg", "abcdh", "f"])
        self.assertEqual(wait(["abcdg", "abcdh", "f"]), 4)
        self.assertEqual(self.puts(reader, "ffffabcdg"), [[], [], [], [], ["f"], ["f"], ["f"], ["f"], ["abcdg"]])

    def test_short_words_beside_long_ones(self):
        # With "abcabcab" the text may still begin with "ab" or with one of the long words.
        words = ["ab", "c", "abcabcabd", "abcabcabe"]
        self.assertEqual(wait(words), 8)
        reader = Reader(words)
        self.assertEqual(self.puts(reader, "abcabcab"), [[]] * 8)
        self.assertEqual(self.puts(reader, "ca"), [["ab"], []])
        self.assertEqual(reader.many(), 8)
        self.refused("NoReading", reader.end)
        self.assertEqual(self.puts(reader, "b"), [["c"]])
        self.assertEqual(reader.end(), ["ab", "c", "ab", "c", "ab"])
        self.assertEqual(self.puts(reader, "abcabcabe"), [[]] * 8 + [["abcabcabe"]])

    def test_a_word_that_is_known_is_told_with_its_last_sign(self):
        # The wait is 2. The sign behind "ab" tells that; "cde" is known by three signs, "cdefg" by its last one.
        reader = Reader(["ab", "abb", "cdefg", "h"])
        self.assertEqual(wait(["ab", "abb", "cdefg", "h"]), 2)
        self.assertEqual(self.puts(reader, "abcdefgh"), [[], [], ["ab"], [], [], [], ["cdefg"], []])
        self.assertEqual(reader.end(), ["h"])

    def test_what_is_no_sign(self):
        for words in ([], ["a"], ["ab", "abb"], LATE):
            reader = Reader(words)
            for at, thing in enumerate(NO_SIGNS + no_words()):
                with self.subTest(at):
                    self.refused("BadSign", reader.put, thing)
                    self.assertEqual(reader.many(), 0)
            self.assertEqual(reader.end(), [])

    def test_what_is_no_sign_among_signs(self):
        reader = Reader(["ab", "abb"])
        for sign, told in zip("ababbab", [[], [], ["ab"], [], ["abb"], [], []]):
            before = reader.many()
            for thing in NO_SIGNS + [None, 1, HUGE, True, ["a"], ("a",), b"a", Hostile(str)]:
                self.refused("BadSign", reader.put, thing)
            self.assertEqual(reader.many(), before)
            self.assertEqual(reader.put(sign), told)
        self.assertEqual(reader.end(), ["ab"])

    def test_no_sign_comes_ahead_of_no_reading(self):
        reader = Reader(["ab"])
        for thing in ("B", "bb", None, 0, ["b"]):
            self.refused("BadSign", reader.put, thing)
        self.refused("NoReading", reader.put, "b")

    def test_each_letter_is_a_sign(self):
        reader = Reader(["m"])
        for letter in LETTERS:
            if letter == "m":
                self.assertEqual(reader.put(letter), ["m"])
            else:
                self.refused("NoReading", reader.put, letter)

    def test_no_reading(self):
        reader = Reader(["abc"])
        self.refused("NoReading", reader.put, "b")
        self.assertEqual(self.puts(reader, "a"), [[]])
        for sign in "acdz":
            self.refused("NoReading", reader.put, sign)
            self.assertEqual(reader.many(), 1)
        self.assertEqual(self.puts(reader, "b"), [[]])
        self.refused("NoReading", reader.put, "a")
        self.assertEqual(self.puts(reader, "c"), [["abc"]])
        self.assertEqual(reader.end(), [])

    def test_no_reading_with_a_wait(self):
        # The wait is 4: up to there all signs are kept, whichever they are.
        reader = Reader(["a", "abc", "bcd", "de"])
        self.assertEqual(self.puts(reader, "abcd"), [[]] * 4)
        for sign in "cfz":
            self.refused("NoReading", reader.put, sign)
            self.assertEqual(reader.many(), 4)
        self.assertEqual(self.puts(reader, "e"), [["abc"]])
        reader = Reader(["a", "abc", "bcd", "de"])
        self.assertEqual(self.puts(reader, "zzzz"), [[]] * 4)
        for sign in LETTERS:
            self.refused("NoReading", reader.put, sign)
        self.assertEqual(reader.many(), 4)
        self.refused("NoReading", reader.end)
        self.assertEqual(reader.many(), 4)

    def test_the_empty_code(self):
        reader = Reader([])
        for sign in LETTERS:
            self.refused("NoReading", reader.put, sign)
        self.assertEqual(reader.many(), 0)
        self.assertEqual(reader.end(), [])

    def test_what_is_told_is_a_new_list(self):
        reader = Reader(["a", "b"])
        told = reader.put("a")
        told.append("x")
        again = reader.put("a")
        self.assertEqual(again, ["a"])
        reader.put("b")
        reader.end().append("x")
        self.assertEqual(again, ["a"])
        self.assertEqual(reader.end(), [])
        self.assertEqual(reader.many(), 0)
        reader = Reader(["ab"])
        reader.put("a").append("x")
        self.assertEqual(reader.put("b"), ["ab"])


class EndTest(ReaderTest):

    def test_at_the_end_of_a_text(self):
        reader = Reader(["ab", "abb"])
        self.assertEqual(self.puts(reader, "ab"), [[], []])
        self.assertEqual(reader.many(), 2)
        self.assertEqual(reader.end(), ["ab"])
        self.assertEqual(reader.many(), 0)
        self.assertEqual(reader.end(), [])

    def test_several_words(self):
        words = ["a", "abc", "bcd", "de"]
        reader = Reader(words)
        self.assertEqual(self.puts(reader, "dede"), [[]] * 4)
        self.assertEqual(reader.end(), ["de", "de"])
        self.assertEqual(self.puts(reader, "abcd"), [[]] * 4)
        self.assertEqual(reader.end(), ["a", "bcd"])
        self.assertEqual(self.puts(reader, "aaa"), [[]] * 3)
        self.assertEqual(reader.end(), ["a", "a", "a"])

    def test_in_the_midst_of_a_word(self):
        reader = Reader(["abb", "ab"])
        self.puts(reader, "aba")
        for _ in range(3):
            self.refused("NoReading", reader.end)
            self.assertEqual(reader.many(), 1)
        self.assertEqual(self.puts(reader, "b"), [[]])
        self.assertEqual(reader.end(), ["ab"])

    def test_a_word_that_is_known_and_cut(self):
        reader = Reader(["abcdefghij"])
        for sign in "abcdefghi":
            self.assertEqual(reader.put(sign), [])
            self.refused("NoReading", reader.end)
        self.assertEqual(reader.many(), 9)
        self.assertEqual(reader.put("j"), ["abcdefghij"])
        self.assertEqual(reader.end(), [])

    def test_a_next_text_in_the_same_reader(self):
        reader = Reader(["ab", "abb"])
        self.reads_next(reader, ["ab", "abb", "ab"])
        self.reads_next(reader, ["abb"])
        self.reads_next(reader, [])
        self.reads_next(reader, ["abb", "ab"])
        # The texts "ab" and "b" are two texts here, so that "b" is refused.
        self.reads_next(reader, ["ab"])
        self.assertEqual(self.puts(reader, "b"), [[]])
        self.refused("NoReading", reader.end)

    def test_what_is_told_is_a_new_list(self):
        reader = Reader(["ab", "abb"])
        self.puts(reader, "ab")
        told = reader.end()
        told.append("x")
        self.assertEqual(reader.end(), [])
        self.puts(reader, "abb")
        self.assertEqual(told, ["ab", "x"])
        self.assertEqual(reader.many(), 0)


class ReadingTest(ReaderTest):

    def test_two_readers_by_turns(self):
        one, other = Reader(["ab", "abb"]), Reader(["ab", "abb"])
        third = Reader(["a", "b"])
        self.assertEqual(one.put("a"), [])
        self.assertEqual((one.many(), other.many(), third.many()), (1, 0, 0))
        self.assertEqual(other.put("a"), [])
        self.assertEqual(third.put("a"), ["a"])
        self.assertEqual(one.put("b"), [])
        self.assertEqual(one.put("b"), ["abb"])
        self.assertEqual((one.many(), other.many(), third.many()), (0, 1, 0))
        self.refused("NoReading", other.end)
        self.assertEqual(third.put("b"), ["b"])
        self.assertEqual(other.put("b"), [])
        self.assertEqual(one.end(), [])
        self.assertEqual(other.put("a"), ["ab"])

    def test_every_row_of_large_codes(self):
        for words in (LATE, TENS, CHAIN):
            reader = Reader(words)
            for one, other in itertools.product(words, repeat=2):
                self.reads_next(reader, [one, other, other, one])
            self.reads(words, words * 3)
            self.reads(words, words[::-1] * 3)

    def test_all_short_rows_of_small_codes(self):
        for words in small_codes(3, 3):
            if wait(words) is not None:
                reader = Reader(words)
                for many in range(4):
                    for row in itertools.product(words, repeat=many):
                        self.reads_next(reader, list(row))

    def same_as_slow(self, words, signs, longest):
        reader = Reader(words)
        slow = SlowReader(words, wait(words), longest)
        for sign in signs:
            expected = slow.put(sign)
            if expected is None:
                self.refused("NoReading", reader.put, sign)
            else:
                self.assertEqual(reader.put(sign), expected, (words, signs))
            self.assertEqual(reader.many(), len(slow.kept))
        expected = slow.end()
        if expected is None:
            self.refused("NoReading", reader.end)
        else:
            self.assertEqual(reader.end(), expected)
        self.assertEqual(reader.many(), len(slow.kept))

    def test_all_short_sequences_of_signs(self):
        for words in small_codes(3, 2) + [["ab", "abb", "ba"], ["aab", "b", "ab"], ["aa", "ab", "aba"]]:
            if wait(words) is not None:
                for signs in itertools.product("ab", repeat=6):
                    self.same_as_slow(words, signs, 9)

    def test_some_long_sequences_of_signs(self):
        codes = [["a", "abc", "bcd", "de"], ["a", "abca", "bcd"], ["abc", "ab", "ca"], ["ab", "c", "abcabcab", "cc"]]
        for words in codes:
            if wait(words) is not None:
                for signs in itertools.product("".join(words)[:2] + "c", repeat=5):
                    self.same_as_slow(words, ("a", "b", "c") + signs, 11)


if __name__ == "__main__":
    unittest.main()
