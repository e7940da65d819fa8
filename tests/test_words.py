import unittest

from onereading import errors
from onereading.words import checked, is_word, left_of, shared
from tests.things import HUGE, LETTERS, Hostile, no_lists, no_words, texts, wrong_codes

TWELVE = list("lkjihgfedcba")


class IsWordTest(unittest.TestCase):

    def test_words_of_each_length(self):
        for length in range(1, 11):
            self.assertIs(is_word("a" * length), True)
            self.assertIs(is_word(LETTERS[-length:]), True)

    def test_each_letter(self):
        for letter in LETTERS:
            self.assertIs(is_word(letter), True)

    def test_what_is_no_word(self):
        for at, thing in enumerate(no_words()):
            with self.subTest(at):
                self.assertIs(is_word(thing), False)

    def test_another_sign_at_any_place(self):
        for code in [n for n in range(127) if chr(n) not in LETTERS]:
            for length in range(1, 11):
                for at in range(length):
                    thing = "a" * at + chr(code) + "z" * (length - at - 1)
                    self.assertIs(is_word(thing), False, thing)


class CheckedTest(unittest.TestCase):

    def refused(self, name, words):
        with self.assertRaises(errors.CodeError) as caught:
            checked(words)
        self.assertIs(type(caught.exception), getattr(errors, name))

    def test_the_words_are_told_in_the_order_of_texts(self):
        self.assertEqual(checked(["b", "ab", "a", "ba", "abc", "z", "aa"]), ["a", "aa", "ab", "abc", "b", "ba", "z"])
        self.assertEqual(checked(["aaaaaaaaaa", "b", "a"]), ["a", "aaaaaaaaaa", "b"])

    def test_no_words_one_word_twelve_words(self):
        self.assertEqual(checked([]), [])
        self.assertEqual(checked(["q"]), ["q"])
        self.assertEqual(checked(TWELVE), sorted(TWELVE))

    def test_what_is_no_list(self):
        for at, thing in enumerate(no_lists()):
            with self.subTest(at):
                self.refused("BadCode", thing)

    def test_more_than_twelve_things(self):
        self.refused("Full", list(LETTERS[:13]))
        self.refused("Full", list(LETTERS))
        self.refused("Full", ["a"] * 1000)

    def test_what_is_no_word_at_each_place(self):
        for at, thing in enumerate(no_words()):
            with self.subTest(at):
                self.refused("BadWord", [thing])
                self.refused("BadWord", ["a", "b", thing])
                self.refused("BadWord", ["a", thing, "b"])
                self.refused("BadWord", TWELVE[:11] + [thing])

    def test_a_word_twice(self):
        self.refused("Twice", ["a", "a"])
        self.refused("Twice", ["b", "a", "b"])
        self.refused("Twice", TWELVE[:11] + ["l"])
        self.refused("Twice", TWELVE[:11] + ["b"])
        self.assertEqual(checked(["a", "aa", "aaa"]), ["a", "aa", "aaa"])

    def test_which_refusal_comes_first(self):
        self.refused("BadCode", tuple(["A"] * 13))
        self.refused("BadCode", "A" * 13)
        self.refused("Full", ["A"] * 13)
        self.refused("Full", ["a"] * 13)
        self.refused("Full", [None] + list(LETTERS[:12]))
        self.refused("Full", [Hostile(str)] * 13)
        self.refused("Twice", ["a", "a", "A"])
        self.refused("BadWord", ["a", "A", "a"])
        self.refused("BadWord", ["A", "A"])
        self.refused("BadWord", ["A", "a", "a"])
        self.refused("Twice", ["a", "b", "b", None])
        self.refused("BadWord", ["a", "b", HUGE, "b"])

    def test_all_wrong_codes(self):
        for words, name in wrong_codes():
            self.refused(name, words)

    def test_the_list_handed_in_stays_and_the_list_told_is_new(self):
        words = ["b", "a", "ab"]
        told = checked(words)
        self.assertEqual(words, ["b", "a", "ab"])
        told.append("A")
        told[0] = "z"
        self.assertEqual(words, ["b", "a", "ab"])
        again = checked(words)
        self.assertEqual(again, ["a", "ab", "b"])
        words.clear()
        self.assertEqual(again, ["a", "ab", "b"])

    def test_a_list_in_order_is_told_as_a_new_one(self):
        for words in ([], ["a"], ["a", "b"]):
            told = checked(words)
            self.assertIsNot(told, words)
            self.assertIs(type(told), list)

    def test_a_refused_list_stays(self):
        words = ["b", "a", "b"]
        self.refused("Twice", words)
        self.assertEqual(words, ["b", "a", "b"])


class LeftOfTest(unittest.TestCase):

    def test_texts_without_signs(self):
        self.assertEqual(left_of("", ""), "")
        self.assertEqual(left_of("ab", ""), "ab")
        self.assertIsNone(left_of("", "a"))

    def test_the_same_text_twice(self):
        self.assertEqual(left_of("a", "a"), "")
        self.assertEqual(left_of("abcab", "abcab"), "")

    def test_one_the_beginning_of_the_other(self):
        self.assertEqual(left_of("abcab", "ab"), "cab")
        self.assertEqual(left_of("aaaa", "a"), "aaa")
        self.assertIsNone(left_of("ab", "abcab"))

    def test_unlike_texts(self):
        self.assertIsNone(left_of("ab", "b"))
        self.assertIsNone(left_of("abc", "abd"))
        self.assertIsNone(left_of("ba", "ab"))
        self.assertIsNone(left_of("abab", "ba"))

    def test_all_short_texts(self):
        for text in texts("ab", 4):
            for other in texts("ab", 4):
                rests = [rest for rest in texts("ab", 4) if other + rest == text]
                self.assertEqual(left_of(text, other), rests[0] if rests else None)

    def test_long_texts(self):
        self.assertEqual(left_of("ab" * 500, "ab" * 499), "ab")
        self.assertIsNone(left_of("ab" * 500, "ab" * 499 + "b"))


class SharedTest(unittest.TestCase):

    def test_texts_without_signs(self):
        self.assertEqual(shared("", ""), 0)
        self.assertEqual(shared("", "ab"), 0)
        self.assertEqual(shared("ab", ""), 0)

    def test_the_same_text_twice(self):
        self.assertEqual(shared("a", "a"), 1)
        self.assertEqual(shared("abcab", "abcab"), 5)

    def test_one_the_beginning_of_the_other(self):
        self.assertEqual(shared("ab", "abcab"), 2)
        self.assertEqual(shared("abcab", "ab"), 2)

    def test_unlike_texts(self):
        self.assertEqual(shared("a", "b"), 0)
        self.assertEqual(shared("abc", "abd"), 2)
        self.assertEqual(shared("abca", "abda"), 2)
        self.assertEqual(shared("ba", "aa"), 0)

    def test_all_short_texts(self):
        for text in texts("ab", 4):
            for other in texts("ab", 4):
                both = [start for start in texts("ab", 4) if text.startswith(start) and other.startswith(start)]
                told = shared(text, other)
                self.assertEqual(told, max(len(start) for start in both))
                self.assertIs(type(told), int)

    def test_long_texts(self):
        self.assertEqual(shared("ab" * 500, "ab" * 499 + "b"), 998)


if __name__ == "__main__":
    unittest.main()
