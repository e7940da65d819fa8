import itertools
import unittest

from onereading.codes import Code
from onereading.rests import double, least
from onereading.waits import wait
from tests.large import LARGE
from tests.refused import RefusedTest
from tests.things import HUGE, LETTERS, Hostile, no_words


def filled(words):
    code = Code()
    for word in words:
        code.put(word)
    return code


class CodeTest(RefusedTest):

    def holds(self, code, words):
        """The code has just these words, and tells of them what is told of the words alone."""
        self.assertEqual(code.words(), sorted(words))
        self.assertEqual(code.rests(), least(words))
        self.assertEqual(code.two(), double(words))
        self.assertEqual(code.waiting(), wait(words))
        self.assertEqual(code.words(), sorted(words))


class WordsTest(CodeTest):

    def test_a_new_code(self):
        self.holds(Code(), [])
        self.assertEqual((Code().words(), Code().rests(), Code().two(), Code().waiting()), ([], {}, None, 0))

    def test_put_and_take_tell_nothing(self):
        code = Code()
        self.assertIsNone(code.put("ab"))
        self.assertIsNone(code.put("a"))
        self.assertIsNone(code.take("ab"))
        self.assertIsNone(code.take("a"))

    def test_the_words_are_in_order(self):
        code = Code()
        for word, words in (("b", ["b"]), ("ab", ["ab", "b"]), ("ba", ["ab", "b", "ba"]), ("a", ["a", "ab", "b", "ba"])):
            code.put(word)
            self.assertEqual(code.words(), words)
            self.assertIs(type(code.words()), list)

    def test_words_of_each_length(self):
        code = filled(["abcdefghij"[:length] for length in range(10, 0, -1)])
        self.assertEqual(len(code.words()), 10)
        self.assertEqual(code.words()[-1], "abcdefghij")

    def test_words_taken_and_put_again(self):
        code = filled(["b", "ab", "a"])
        code.take("ab")
        self.holds(code, ["a", "b"])
        code.put("ab")
        self.holds(code, ["a", "ab", "b"])
        code.take("a")
        code.take("ab")
        code.take("b")
        self.holds(code, [])
        code.put("ab")
        self.holds(code, ["ab"])

    def test_two_codes_by_turns(self):
        one, other = Code(), Code()
        one.put("a")
        self.holds(other, [])
        other.put("ab")
        other.put("a")
        one.put("ba")
        self.holds(one, ["a", "ba"])
        self.holds(other, ["a", "ab"])
        one.take("a")
        self.holds(one, ["ba"])
        self.holds(other, ["a", "ab"])
        self.refused("NotThere", one.take, "ab")
        other.take("a")
        self.holds(one, ["ba"])
        self.holds(other, ["ab"])


class PutTest(CodeTest):

    def test_what_is_no_word(self):
        code = filled(["ab", "b"])
        for at, thing in enumerate(no_words()):
            with self.subTest(at):
                self.refused("BadWord", code.put, thing)
                self.refused("BadWord", Code().put, thing)
        self.holds(code, ["ab", "b"])

    def test_a_word_that_is_there(self):
        code = filled(["ab", "b"])
        self.refused("Twice", code.put, "b")
        self.refused("Twice", code.put, "ab")
        self.holds(code, ["ab", "b"])
        code.put("a")
        self.refused("Twice", code.put, "a")
        code.take("b")
        code.put("b")
        self.refused("Twice", code.put, "b")
        self.holds(code, ["a", "ab", "b"])

    def test_a_thirteenth_word(self):
        code = filled(LETTERS[:11])
        code.put("l")
        for word in ("m", "aa", "abcdefghij", "z"):
            self.refused("Full", code.put, word)
        self.holds(code, list(LETTERS[:12]))
        code.take("c")
        code.put("m")
        self.refused("Full", code.put, "c")
        self.holds(code, [letter for letter in LETTERS[:13] if letter != "c"])

    def test_the_order_of_the_refusals(self):
        code = filled(LETTERS[:12])
        for word in LETTERS[:12]:
            self.refused("Twice", code.put, word)
        for thing in ("A", "", "a" * 11, None, 1, ["a"], Hostile(str)):
            self.refused("BadWord", code.put, thing)
        self.refused("Full", code.put, "m")
        self.holds(code, list(LETTERS[:12]))


class TakeTest(CodeTest):

    def test_what_is_not_there(self):
        code = filled(["ab", "b"])
        for thing in no_words() + ["a", "abc", "bb", "z", "abcdefghij", HUGE, ["ab", "b"], ("ab",), ["ab"]]:
            self.refused("NotThere", code.take, thing)
            self.refused("NotThere", Code().take, thing)
        self.holds(code, ["ab", "b"])

    def test_a_word_that_was_taken(self):
        code = filled(["ab", "b"])
        code.take("ab")
        self.refused("NotThere", code.take, "ab")
        self.holds(code, ["b"])
        code.take("b")
        self.refused("NotThere", code.take, "b")
        self.holds(code, [])

    def test_a_word_that_was_refused(self):
        code = filled(LETTERS[:12])
        self.refused("Full", code.put, "m")
        self.refused("NotThere", code.take, "m")
        self.holds(code, list(LETTERS[:12]))


class ToldTest(CodeTest):

    def test_behind_each_change(self):
        code = Code()
        code.put("ab")
        self.assertEqual((code.rests(), code.two(), code.waiting()), ({}, None, 0))
        code.put("a")
        self.assertEqual((code.rests(), code.two(), code.waiting()), ({"b": 2}, None, 1))
        code.put("bb")
        self.assertEqual((code.rests(), code.two(), code.waiting()), ({"b": 2}, None, None))
        code.put("b")
        self.assertEqual((code.two(), code.waiting()), (("ab", ["a", "b"], ["ab"]), None))
        code.take("a")
        self.assertEqual((code.rests(), code.two()), ({"b": 2, "": 2, "ab": 4, "bb": 4}, ("bb", ["b", "b"], ["bb"])))
        code.take("bb")
        self.assertEqual((code.rests(), code.two(), code.waiting()), ({}, None, 0))

    def test_in_any_order_and_again(self):
        for words in (["a", "ab", "bb"], ["ba", "a", "ab"], ["ab", "abb"], ["a", "b"]):
            told = {"rests": least(words), "two": double(words), "waiting": wait(words), "words": sorted(words)}
            for order in itertools.permutations(told):
                code = filled(words)
                for name in order + order:
                    self.assertEqual(getattr(code, name)(), told[name])

    def test_many_changes(self):
        code = Code()
        there = []
        for at, word in enumerate(["a", "ab", "ba", "a", "bab", "b", "ab", "bb", "ba", "abb", "b", "a", "bab", "a"] * 3):
            if word in there:
                code.take(word)
                there.remove(word)
            else:
                code.put(word)
                there.append(word)
            if at % 4:
                self.holds(code, there)

    def test_large_codes(self):
        for words in LARGE:
            self.holds(filled(words), words)
            self.holds(filled(words[::-1]), words)

    def test_what_was_told_stays_as_it_was_told(self):
        code = filled(["a", "ab", "b"])
        words, rests, two = code.words(), code.rests(), code.two()
        code.take("ab")
        code.put("bb")
        code.words(), code.rests(), code.two()
        self.assertEqual(words, ["a", "ab", "b"])
        self.assertEqual(rests, least(["a", "ab", "b"]))
        self.assertEqual(two, ("ab", ["a", "b"], ["ab"]))

    def test_what_is_done_to_what_was_told_changes_nothing(self):
        code = filled(["a", "ab", "b"])
        for _ in range(2):
            words, rests, two = code.words(), code.rests(), code.two()
            words.append("A")
            words[0] = "x"
            rests.clear()
            rests["a"] = "x"
            two[1].clear()
            two[2].append("x")
            self.holds(code, ["a", "ab", "b"])
        code.words().clear()
        code.put("c")
        self.holds(code, ["a", "ab", "b", "c"])


if __name__ == "__main__":
    unittest.main()
