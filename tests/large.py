"""Codes of many and long words, found by a search for late answers; no slow search can follow them."""

# A wait of 110 signs.
LATE = [
    "aababaaba", "aabbaabbab", "abaabaab", "abbabbb", "baaabab", "babaaabbbb", "babbbbbbba", "bba", "bbabaababa",
    "bbbbaba", "bbbbabaaa", "bbbbbbab",
]
# The shortest text with two partings has 137 signs.
FAR_DOUBLE = [
    "aaabaaaba", "aabaabaab", "aabbbbbbb", "abaaabaabb", "abaabbbab", "ababaaab", "abbaaabaaa", "baaabaa",
    "babbbbbaaa", "bbababaaab", "bbbb", "bbbbbbabab",
]
TENS = [
    "aabbaabbab", "abaaabaabb", "abbaaabaaa", "ababaaabba", "baaabaabaa", "babaaabbbb", "babbbbbbba", "babbbbbaaa",
    "bbabaababa", "bbababaaab", "bbbbbbabab", "bbbbbbbbbb",
]
# No text has two partings, and yet there is no wait: "c" and "ca" go on by the third word again and again.
ENDLESS = ["c", "ca", "aaaaaaaaaa"] + ["bbbbbbbbb" + letter for letter in "defghijkl"]
# Every rest is a row of the letter a, and goes on by each word.
ONE_LETTER = ["a" * length for length in range(1, 11)]
TWO_LENGTHS = ["aaaaaaaaaa", "aaaaaaaaa"]
CHAIN = [
    "a", "abcdefghij", "bcdefghijk", "klmnopqrst", "lmnopqrstu", "uvwxyzabcd", "vwxyzabcde", "efghijklmn",
    "fghijklmno", "opqrstuvwx", "pqrstuvwxy", "yzyzyzyzyz",
]

LARGE = [LATE, FAR_DOUBLE, TENS, ENDLESS, ONE_LETTER, TWO_LENGTHS, CHAIN]
