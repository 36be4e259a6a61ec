"""traceclasses/prefixes.py: [c5], [x1]."""

import itertools
import time
import unittest

from by_search import (
    ALL_FREE, EXAMPLE, LOTS, MIXED, NO_PAIRS, ROW, SEVERAL, STAR,
    all_prefixes, alphabets, least_words, reached, some_words, told, words_up_to,
)
from traceclasses.counting import count_prefixes
from traceclasses.exchanges import parts
from traceclasses.prefixes import is_prefix, join, meet, prefixes, rest


def rests(alphabet, word):
    """For the least word of each prefix the set of the least words of what is left behind it."""
    found = {}
    for other in reached(alphabet, word):
        for k in range(len(word) + 1):
            found.setdefault(told(alphabet, other[:k]), set()).add(told(alphabet, other[k:]))
    return found


class IsPrefixAndRest(unittest.TestCase):
    def compare(self, alphabet, word, other, behind):
        wanted = behind.get(told(alphabet, word))
        self.assertIs(is_prefix(alphabet, word, other), wanted is not None, (alphabet, word, other))
        if wanted is None:
            self.assertIsNone(rest(alphabet, word, other))
        else:
            self.assertEqual({rest(alphabet, word, other)}, wanted, (alphabet, word, other))

    def test_by_hand(self):
        self.assertIs(is_prefix(EXAMPLE, "ad", "cadb"), False)
        self.assertIs(is_prefix(EXAMPLE, "ca", "acbd"), True)
        self.assertIs(is_prefix(EXAMPLE, "acd", "cabd"), True)
        self.assertEqual(rest(EXAMPLE, "c", "aacb"), "aab")
        self.assertEqual(rest(EXAMPLE, "acd", "cabd"), "b")
        self.assertEqual(rest(EXAMPLE, "b", "bcca"), "acc")
        self.assertIsNone(rest(EXAMPLE, "b", "acb"))

    def test_words_that_are_no_prefix(self):
        for word, other in (("a", ""), ("a", "c"), ("aa", "a"), ("ab", "a"), ("d", "abc"), ("ba", "ab")):
            self.assertIs(is_prefix(EXAMPLE, word, other), False)
            self.assertIsNone(rest(EXAMPLE, word, other))

    def test_edges(self):
        for alphabet in SEVERAL:
            letter = alphabet[1][-1]
            for word in ("", letter, letter * 14, some_words(alphabet, 14, 1)[0]):
                self.assertIs(is_prefix(alphabet, "", word), True)
                self.assertIs(is_prefix(alphabet, word, word), True)
                self.assertIs(is_prefix(alphabet, word, ""), word == "")
                self.assertEqual(rest(alphabet, word, word), "")
                self.assertIsNone(parts(alphabet, rest(alphabet, "", word), word))
            self.assertEqual(rest(alphabet, letter * 5, letter * 14), letter * 9)
            self.assertIsNone(rest(alphabet, letter * 14, letter * 5))
        self.assertEqual(rest(ALL_FREE, "fa", "fbdaceffbdaacc"), "aabbcccddefff"[:-1])
        self.assertEqual(rest(NO_PAIRS, "fb", "fbda"), "da")
        self.assertIsNone(rest(NO_PAIRS, "bf", "fbda"))

    def test_against_all_alike_words(self):
        for alphabet in alphabets("abc"):
            short = words_up_to("abc", 3)
            for other in words_up_to("abc", 4):
                behind = rests(alphabet, other)
                for word in short:
                    self.compare(alphabet, word, other, behind)
        for alphabet in SEVERAL:
            for other in some_words(alphabet, 6, 6):
                behind = rests(alphabet, other)
                for word in some_words(alphabet, 3, 20) + sorted(behind):
                    self.compare(alphabet, word, other, behind)


class Prefixes(unittest.TestCase):
    def test_by_hand(self):
        self.assertEqual(prefixes(EXAMPLE, "cadb"), ("", "a", "c", "ac", "acb", "acd", "acbd"))
        self.assertEqual(prefixes(EXAMPLE, "caa"), ("", "a", "c", "aa", "ac", "aac"))
        self.assertEqual(prefixes(EXAMPLE, "ba"), ("", "b", "ba"))

    def test_edges(self):
        for alphabet in SEVERAL:
            letter = alphabet[1][0]
            self.assertEqual(prefixes(alphabet, ""), ("",))
            self.assertEqual(prefixes(alphabet, letter * 4), tuple(letter * k for k in range(5)))
        self.assertEqual(prefixes(NO_PAIRS, "fbda"), ("", "f", "fb", "fbd", "fbda"))
        self.assertEqual(len(prefixes(ALL_FREE, "fbdaceffbdaacc")), 4 * 3 * 4 * 3 * 2 * 4)
        self.assertEqual(prefixes(ALL_FREE, "cba"), ("", "a", "b", "c", "ab", "ac", "bc", "abc"))

    def test_against_the_beginnings_of_all_alike_words(self):
        for alphabet in alphabets("abc"):
            for word in words_up_to("abc", 4):
                self.assertEqual(prefixes(alphabet, word), tuple(all_prefixes(alphabet, word)), (alphabet, word))
        for alphabet in SEVERAL:
            for word in some_words(alphabet, 6, 6):
                self.assertEqual(prefixes(alphabet, word), tuple(all_prefixes(alphabet, word)), (alphabet, word))

    def test_words_of_fourteen_letters(self):
        for alphabet in SEVERAL:
            for word in some_words(alphabet, 14, 3):
                row = prefixes(alphabet, word)
                self.assertEqual(len(row), count_prefixes(alphabet, word))
                self.assertEqual(list(row), sorted(set(row), key=lambda text: (len(text), text)))
                self.assertTrue(all(is_prefix(alphabet, text, word) for text in row))


class Meet(unittest.TestCase):
    def plain(self, one, two):
        """By the sets of the prefixes of all traces."""
        common = one & two
        most = max(len(word) for word in common)
        return [word for word in common if len(word) == most]

    def test_by_hand(self):
        self.assertEqual(meet(EXAMPLE, "cab", "acd"), "ac")
        self.assertEqual(meet(EXAMPLE, "cab", "cad"), "ac")
        self.assertEqual(meet(EXAMPLE, "ab", "cab"), "a")
        self.assertEqual(meet(EXAMPLE, "aac", "acc"), "ac")
        self.assertEqual(meet(EXAMPLE, "ab", "ba"), "")
        self.assertEqual(meet(EXAMPLE, "ca", "cc"), "c")

    def test_edges(self):
        for alphabet in SEVERAL:
            letter = alphabet[1][-1]
            word = some_words(alphabet, 14, 1)[0]
            for other in ("", letter, word):
                self.assertEqual(meet(alphabet, "", other), "")
                self.assertEqual(meet(alphabet, other, ""), "")
            self.assertIsNone(parts(alphabet, meet(alphabet, word, word), word))
            self.assertEqual(meet(alphabet, letter * 5, letter * 9), letter * 5)
        self.assertEqual(meet(ALL_FREE, "fbdaceffbd", "cccbbbaaafff"), "abbcfff")
        self.assertEqual(meet(NO_PAIRS, "fbda", "fbad"), "fb")

    def test_each_common_prefix_is_a_prefix_of_it(self):
        for alphabet in alphabets("abc"):
            rows = {word: set(all_prefixes(alphabet, word)) for word in words_up_to("abc", 3)}
            for word, other in itertools.product(rows, repeat=2):
                both = meet(alphabet, word, other)
                self.assertEqual([both], self.plain(rows[word], rows[other]), (alphabet, word, other))
                self.assertEqual(rows[both], rows[word] & rows[other])
        for alphabet in SEVERAL:
            rows = {word: set(all_prefixes(alphabet, word)) for word in some_words(alphabet, 6, 12)}
            for word, other in itertools.product(rows, repeat=2):
                both = meet(alphabet, word, other)
                self.assertEqual(set(all_prefixes(alphabet, both)), rows[word] & rows[other])
                self.assertEqual(both, told(alphabet, both))


class Join(unittest.TestCase):
    def test_by_hand(self):
        self.assertEqual(join(EXAMPLE, "a", "c"), "ac")
        self.assertEqual(join(EXAMPLE, "caa", "cc"), "aacc")
        self.assertEqual(join(EXAMPLE, "acb", "acd"), "acbd")
        self.assertEqual(join(EXAMPLE, "cab", "a"), "acb")
        self.assertIsNone(join(EXAMPLE, "a", "b"))
        self.assertEqual(join(EXAMPLE, "ab", "ad"), "abd")
        self.assertIsNone(join(EXAMPLE, "ab", "ac"))
        self.assertIsNone(join(EXAMPLE, "ab", "c"))

    def test_edges(self):
        for alphabet in SEVERAL:
            letter = alphabet[1][-1]
            self.assertEqual(join(alphabet, "", ""), "")
            for word in (letter, letter * 14, told(alphabet, some_words(alphabet, 5, 1)[0])):
                self.assertEqual(join(alphabet, "", word), word)
                self.assertEqual(join(alphabet, word, ""), word)
                self.assertEqual(join(alphabet, word, word), word)
            self.assertEqual(join(alphabet, letter * 5, letter * 9), letter * 9)
        self.assertEqual(join(ALL_FREE, "fbdaceffbd", "cccbbbaaafff"), "aaabbbcccddefff")
        self.assertEqual(join(NO_PAIRS, "fb", "fbda"), "fbda")
        self.assertIsNone(join(NO_PAIRS, "fbda", "fbad"))
        self.assertEqual(join(LOTS, "abcabca" * 2, "defdefd" * 2), "abcabca" * 2 + "defdefd" * 2)

    def test_it_is_a_prefix_of_each_trace_of_which_both_are(self):
        for alphabet in itertools.chain(alphabets("abc"), (EXAMPLE,)):
            longest = 5 if alphabet[1] == "abc" else 4
            rows = {}
            for n in range(longest + 1):
                for word in least_words(alphabet, n):
                    rows[word] = set(all_prefixes(alphabet, word))
            for word, other in itertools.product(rows, repeat=2):
                if len(word + other) <= longest:
                    self.compare(alphabet, rows, word, other)

    def compare(self, alphabet, rows, word, other):
        # A join has no more letters than both words together.
        multiples = [text for text in rows if word in rows[text] and other in rows[text]]
        least = [text for text in multiples if all(text in rows[more] for more in multiples)]
        self.assertEqual([join(alphabet, word, other)], least or [None], (alphabet, word, other))


class LongWords(unittest.TestCase):
    def test_words_of_fourteen_letters_take_no_noticeable_time(self):
        word, other = "fbdacefbdacefb", "aabbbccddeefff"
        for alphabet in (ALL_FREE, MIXED, ROW, STAR, NO_PAIRS):
            for reckon, *more in (
                (prefixes, word), (prefixes, other), (meet, word, other), (join, word, other),
                (rest, word[:7], word), (is_prefix, word, other),
            ):
                began = time.perf_counter()
                reckon(alphabet, *more)
                self.assertLess(time.perf_counter() - began, 1, (reckon, alphabet))


if __name__ == "__main__":
    unittest.main()
