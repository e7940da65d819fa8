import unittest

from onereading.partings import counted, may_begin, parting
from tests.refused import RefusedTest
from tests.things import CODES, HUGE, no_lists, no_numbers, no_words, partings, rows_up_to, texts, wrong_codes


class CountedTest(RefusedTest):

    def test_one_longer_than_the_text(self):
        self.assertEqual(counted(["a", "ab", "ba"], "aba"), [2, 1, 1, 1])
        self.assertEqual(counted(["a", "aa"], "aaaa"), [5, 3, 2, 1, 1])
        for text in texts("ab", 5):
            self.assertEqual(len(counted(["a", "ab"], text)), len(text) + 1)

    def test_the_empty_code(self):
        self.assertEqual(counted([], ""), [1])
        self.assertEqual(counted([], "ab"), [0, 0, 1])

    def test_the_empty_text(self):
        self.assertEqual(counted(["a", "b"], ""), [1])

    def test_no_parting(self):
        self.assertEqual(counted(["ab"], "aba"), [0, 0, 0, 1])
        self.assertEqual(counted(["ab"], "ba"), [0, 0, 1])
        self.assertEqual(counted(["aa"], "aaa"), [0, 1, 0, 1])

    def test_one_parting(self):
        self.assertEqual(counted(["ab", "cd"], "abcd"), [1, 0, 1, 0, 1])
        self.assertEqual(counted(["abcdefghij"], "abcdefghij"), [1] + [0] * 9 + [1])

    def test_very_many_partings(self):
        fibonacci = [1, 1]
        while len(fibonacci) < 501:
            fibonacci.append(fibonacci[-1] + fibonacci[-2])
        self.same_long(counted(["a", "aa"], "a" * 500), fibonacci[::-1])
        words = ["a" * length for length in range(1, 11)]
        self.assertEqual(counted(words, "a" * 600)[590:], [512, 256, 128, 64, 32, 16, 8, 4, 2, 1, 1])
        self.assertEqual(counted(["a", "b", "ab"], "ab" * 1000)[0], 2 ** 1000)

    def test_every_short_text(self):
        for words in CODES:
            for text in texts("ab", 6):
                expected = [len(partings(words, text[at:])) for at in range(len(text) + 1)]
                self.assertEqual(counted(words, text), expected, (words, text))

    def test_whole_numbers_alone(self):
        for text in ("", "a", "ab", "aba"):
            for number in counted(["a", "ab", "ba"], text):
                self.assertIs(type(number), int)

    def test_told_again_alike_and_the_words_stay(self):
        words = ["ba", "ab", "a"]
        told = counted(words, "aba")
        told.append(9)
        told[0] = 7
        self.assertEqual(counted(words, "aba"), [2, 1, 1, 1])
        self.assertEqual(words, ["ba", "ab", "a"])

    def test_words_changed_later(self):
        words = ["a", "aa"]
        told = counted(words, "aa")
        words.append("b")
        words.remove("aa")
        self.assertEqual(told, [2, 1, 1])
        self.assertEqual(counted(words, "aa"), [1, 1, 1])

    def test_wrong_words(self):
        for words, name in wrong_codes():
            self.refused(name, counted, words, "ab")
            self.refused(name, counted, words, "")
            self.refused(name, counted, words, None)
        for thing in no_lists():
            self.refused("BadCode", counted, thing, "ab")
        for thing in no_words():
            self.refused("BadWord", counted, ["a", thing], "ab")


class PartingTest(RefusedTest):

    def test_the_first_one_and_the_last_one(self):
        self.assertEqual(parting(["ba", "ab", "a"], "aba", 0), ["a", "ba"])
        self.assertEqual(parting(["ba", "ab", "a"], "aba", 1), ["ab", "a"])
        self.assertEqual(parting(["aaa", "a", "aa"], "aaa", 0), ["a", "a", "a"])
        self.assertEqual(parting(["aaa", "a", "aa"], "aaa", 3), ["aaa"])

    def test_the_shorter_word_at_the_first_unlike_place_is_ahead(self):
        told = [parting(["aaa", "aa", "a"], "aaaa", number) for number in range(7)]
        self.assertEqual(told, [
            ["a", "a", "a", "a"], ["a", "a", "aa"], ["a", "aa", "a"], ["a", "aaa"],
            ["aa", "a", "a"], ["aa", "aa"], ["aaa", "a"],
        ])

    def test_a_shorter_word_from_which_there_is_no_parting(self):
        self.assertEqual(parting(["a", "ab"], "aba", 0), ["ab", "a"])
        self.assertEqual(parting(["a", "ab", "abab", "ababa"], "ababa", 0), ["ab", "ab", "a"])

    def test_the_text_without_signs(self):
        for words in ([], ["a"], ["a", "b"]):
            self.assertEqual(parting(words, "", 0), [])
            for number in (1, -1, HUGE):
                self.refused("NoNumber", parting, words, "", number)

    def test_the_empty_code(self):
        self.refused("NoNumber", parting, [], "a", 0)

    def test_a_text_without_a_parting(self):
        for number in (0, 1, -1, HUGE):
            self.refused("NoNumber", parting, ["ab"], "aba", number)

    def test_numbers_beyond(self):
        for number in (2, 3, 100, HUGE, -1, -2, -HUGE):
            self.refused("NoNumber", parting, ["ba", "ab", "a"], "aba", number)

    def test_what_is_no_whole_number(self):
        for at, thing in enumerate(no_numbers()):
            with self.subTest(at):
                self.refused("NoNumber", parting, ["ba", "ab", "a"], "aba", thing)
                self.refused("NoNumber", parting, ["a"], "", thing)
                self.refused("NoNumber", parting, ["a"], "b", thing)

    def test_every_parting_of_every_short_text(self):
        for words in CODES:
            for text in texts("ab", 6):
                expected = partings(words, text)
                told = [parting(words, text, number) for number in range(len(expected))]
                self.assertEqual(told, expected, (words, text))
                self.refused("NoNumber", parting, words, text, len(expected))
                self.refused("NoNumber", parting, words, text, -1)

    def test_very_many_partings(self):
        words = ["a", "aa"]
        many = counted(words, "a" * 400)[0]
        self.same_long(parting(words, "a" * 400, 0), ["a"] * 400)
        self.same_long(parting(words, "a" * 400, 1), ["a"] * 398 + ["aa"])
        self.same_long(parting(words, "a" * 400, many - 1), ["aa"] * 200)
        self.same_long(parting(words, "a" * 400, many - 2), ["aa"] * 199 + ["a", "a"])
        self.refused("NoNumber", parting, words, "a" * 400, many)
        for number in (many // 2, many // 3, many // 7):
            self.assertEqual("".join(parting(words, "a" * 400, number)), "a" * 400)

    def test_the_number_of_a_long_parting(self):
        # Each "ab" is parted as a, b (the digit 0) or as ab (the digit 1), so the number is read off the row.
        digits = [at * at % 3 % 2 for at in range(1000)]
        number = int("".join(map(str, digits)), 2)
        expected = [word for digit in digits for word in (["ab"] if digit else ["a", "b"])]
        self.same_long(parting(["ab", "b", "a"], "ab" * 1000, number), expected)

    def test_told_again_alike_and_the_words_stay(self):
        words = ["ba", "ab", "a"]
        told = parting(words, "aba", 1)
        told.append("x")
        told[0] = "y"
        self.assertEqual(parting(words, "aba", 1), ["ab", "a"])
        self.assertEqual(words, ["ba", "ab", "a"])
        empty = parting(words, "", 0)
        empty.append("x")
        self.assertEqual(parting(words, "", 0), [])

    def test_a_row_told_does_not_follow_the_words(self):
        words = ["ba", "ab", "a"]
        told = parting(words, "aba", 1)
        words.clear()
        self.assertEqual(told, ["ab", "a"])

    def test_wrong_words_ahead_of_all_else(self):
        for words, name in wrong_codes():
            for number in (0, -1, HUGE, True, None, "0"):
                self.refused(name, parting, words, "ab", number)
                self.refused(name, parting, words, "", number)
            self.refused(name, parting, words, None, None)
        for thing in no_lists():
            self.refused("BadCode", parting, thing, "ab", None)
        for thing in no_words():
            self.refused("BadWord", parting, ["a", thing], "ab", -1)


class MayBeginTest(RefusedTest):

    def test_true(self):
        for text in ("", "a", "ab", "abc", "abca", "abcabc", "d", "de", "abcde", "deabcd"):
            self.assertIs(may_begin(["de", "abc"], text), True, text)

    def test_false(self):
        for text in ("b", "c", "aa", "ac", "abd", "abcb", "e", "deaa", "abcdd", "abcabcb"):
            self.assertIs(may_begin(["de", "abc"], text), False, text)

    def test_the_empty_text_and_the_empty_code(self):
        self.assertIs(may_begin([], ""), True)
        self.assertIs(may_begin([], "a"), False)
        self.assertIs(may_begin(["a"], ""), True)

    def test_a_text_cut_within_a_word(self):
        for length in range(21):
            self.assertIs(may_begin(["abcdefghij"], ("abcdefghij" * 2)[:length]), True)
            self.assertIs(may_begin(["abcdefghij"], ("abcdefghij" * 2)[:length] + "x"), False)
        self.assertIs(may_begin(["abcdefghij"], "abcdefghija"), True)
        self.assertIs(may_begin(["abcdefghij"], "abcdefghijb"), False)

    def test_a_text_with_a_letter_put_in(self):
        text = "abcdeabcabcde"
        self.assertIs(may_begin(["abc", "de"], text), True)
        for at in range(len(text) + 1):
            self.assertIs(may_begin(["abc", "de"], text[:at] + "x" + text[at:]), False)

    def test_a_long_text(self):
        self.assertIs(may_begin(["a", "aa", "ab"], "a" * 2000 + "b" + "a" * 2000), True)
        self.assertIs(may_begin(["a", "aa", "ab"], "a" * 2000 + "bb" + "a" * 2000), False)
        self.assertIs(may_begin(["aa", "abc"], "aa" * 1000 + "ab"), True)
        self.assertIs(may_begin(["aa", "abc"], "a" + "aa" * 1000 + "ab"), False)

    def test_every_short_text(self):
        for words in CODES:
            joined = ["".join(row) for row in rows_up_to(words, 9)]
            for text in texts("ab", 6):
                expected = any(whole.startswith(text) for whole in joined)
                self.assertIs(may_begin(words, text), expected, (words, text))

    def test_the_words_stay(self):
        words = ["ba", "ab", "a"]
        may_begin(words, "aba")
        self.assertEqual(words, ["ba", "ab", "a"])

    def test_wrong_words(self):
        for words, name in wrong_codes():
            self.refused(name, may_begin, words, "ab")
            self.refused(name, may_begin, words, "")
            self.refused(name, may_begin, words, None)
        for thing in no_lists():
            self.refused("BadCode", may_begin, thing, "ab")
        for thing in no_words():
            self.refused("BadWord", may_begin, ["a", thing], "")


if __name__ == "__main__":
    unittest.main()
