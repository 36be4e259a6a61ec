"""traceclasses/roots.py: [c6] (components), [j1]."""

import itertools
import time
import unittest

from by_search import (
    ALL_FREE, EXAMPLE, GAPS, LOTS, MIXED, NO_PAIRS, ROW, SEVERAL, STAR,
    all_prefixes, alphabets, are_free, some_words, told, words_up_to,
)
from traceclasses.exchanges import parts
from traceclasses.forms import least
from traceclasses.roots import components, power, root


def is_connected(alphabet, word):
    """By trying all two lots of its letters, neither empty."""
    letters = sorted(set(word))
    for many in range(1, len(letters)):
        for lot in itertools.combinations(letters, many):
            others = [x for x in letters if x not in lot]
            if all(are_free(alphabet, x, y) for x in lot for y in others):
                return False
    return word != ""


class Components(unittest.TestCase):
    def check(self, alphabet, word):
        found = components(alphabet, word)
        self.assertIs(type(found), tuple)
        self.assertEqual(found, tuple(sorted(set(found))))
        for one, two in itertools.combinations(found, 2):
            self.assertTrue(all(are_free(alphabet, x, y) for x in one for y in two), (alphabet, word))
        for one in found:
            self.assertTrue(is_connected(alphabet, one), (alphabet, word, one))
            self.assertEqual(one, least(alphabet, one))
        self.assertIsNone(parts(alphabet, "".join(found), word), (alphabet, word))

    def test_by_hand(self):
        self.assertEqual(components(EXAMPLE, "cacac"), ("aa", "ccc"))
        self.assertEqual(components(EXAMPLE, "cab"), ("acb",))
        self.assertEqual(components(EXAMPLE, "db"), ("b", "d"))
        self.assertEqual(components(LOTS, "fcbead"), ("cba", "fed"))
        self.assertEqual(components(LOTS, "fbf"), ("b", "ff"))
        self.assertEqual(components(GAPS, "fbd"), ("bfd",))

    def test_lots_that_later_letters_join(self):
        self.assertEqual(components(ROW, "aceb"), ("acb", "e"))
        self.assertEqual(components(ROW, "eca"), ("a", "c", "e"))
        self.assertEqual(components(ROW, "fdbace"), ("badcfe",))
        self.assertEqual(components(STAR, "fedcba"), ("bcdefa",))
        self.assertEqual(components(STAR, "fedcb"), ("b", "c", "d", "e", "f"))

    def test_edges(self):
        for alphabet in SEVERAL:
            letter = alphabet[1][0]
            self.assertEqual(components(alphabet, ""), ())
            self.assertEqual(components(alphabet, letter), (letter,))
            self.assertEqual(components(alphabet, letter * 14), (letter * 14,))
        self.assertEqual(components(ALL_FREE, "fbdaceffbdaacc"), ("aaa", "bb", "ccc", "dd", "e", "fff"))
        self.assertEqual(components(NO_PAIRS, "fbdace"), ("fbdace",))

    def test_what_they_must_be(self):
        for alphabet in alphabets("abcd"):
            for word in words_up_to("abcd", 3) + some_words(alphabet, 7, 10):
                self.check(alphabet, word)
        for alphabet in SEVERAL:
            for word in some_words(alphabet, 4, 20) + some_words(alphabet, 14, 10):
                self.check(alphabet, word)


class Power(unittest.TestCase):
    def test_by_hand(self):
        self.assertEqual(power(EXAMPLE, "ca", 3), "aaaccc")
        self.assertEqual(power(EXAMPLE, "cab", 2), "acbacb")
        self.assertEqual(power(EXAMPLE, "cab", 1), "acb")
        self.assertEqual(power(EXAMPLE, "bca", 2), "bacbac")

    def test_edges(self):
        for alphabet in SEVERAL:
            letter = alphabet[1][-1]
            self.assertEqual(power(alphabet, letter, 28), letter * 28)
            self.assertEqual(power(alphabet, letter * 14, 2), letter * 28)
            for word in ("", letter, letter * 14):
                self.assertEqual(power(alphabet, word, 0), "")
                self.assertEqual(power(alphabet, "", len(word)), "")
        self.assertEqual(power(ALL_FREE, "fbdacef", 4), "aaaabbbbccccddddeeeeffffffff")
        self.assertEqual(power(NO_PAIRS, "fbdacefbdacefb", 2), "fbdacefbdacefb" * 2)

    def test_it_is_the_least_word_of_as_many_copies(self):
        for alphabet in alphabets("abc"):
            for word in words_up_to("abc", 2):
                for n in range(4):
                    self.assertEqual(power(alphabet, word, n), told(alphabet, word * n), (alphabet, word, n))


class Root(unittest.TestCase):
    def plain(self, alphabet, word):
        """By going through all prefixes and all exponents."""
        return max(
            ((prefix, n) for prefix in all_prefixes(alphabet, word) for n in range(1, len(word) + 1)
             if len(prefix * n) == len(word) and told(alphabet, prefix * n) == told(alphabet, word)),
            key=lambda pair: pair[1],
        )

    def test_by_hand(self):
        self.assertEqual(root(EXAMPLE, "acac"), ("ac", 2))
        self.assertEqual(root(EXAMPLE, "ccaa"), ("ac", 2))
        self.assertEqual(root(EXAMPLE, "cabacb"), ("acb", 2))
        self.assertEqual(root(EXAMPLE, "abba"), ("abba", 1))
        self.assertEqual(root(EXAMPLE, "abab"), ("ab", 2))

    def test_components_of_unlike_exponents(self):
        self.assertEqual(root(EXAMPLE, "aacccc"), ("acc", 2))
        self.assertEqual(root(EXAMPLE, "aaaccc"), ("ac", 3))
        self.assertEqual(root(EXAMPLE, "aaacc"), ("aaacc", 1))
        self.assertEqual(root(EXAMPLE, "a" * 6 + "c" * 4), ("aaacc", 2))
        self.assertEqual(root(LOTS, "abababab" + "dddddd"), ("ababddd", 2))
        self.assertEqual(root(LOTS, "abababab" + "deed"), ("ababababdeed", 1))

    def test_counts_that_would_do_and_an_order_that_does_not(self):
        self.assertEqual(root(NO_PAIRS, "aabb"), ("aabb", 1))
        self.assertEqual(root(EXAMPLE, "acbbac"), ("acbbac", 1))
        self.assertEqual(root(STAR, "abcacb"), ("abc", 2))
        self.assertEqual(root(STAR, "abccab"), ("abccab", 1))

    def test_edges(self):
        for alphabet in SEVERAL:
            letter = alphabet[1][0]
            self.assertEqual(root(alphabet, letter), (letter, 1))
            self.assertEqual(root(alphabet, letter * 13), (letter, 13))
            self.assertEqual(root(alphabet, letter * 14), (letter, 14))
        self.assertEqual(root(ALL_FREE, "fedcba" * 2), ("abcdef", 2))
        self.assertEqual(root(ALL_FREE, "fbdaceffbdaacc"), ("aaabbcccddefff", 1))
        self.assertEqual(root(NO_PAIRS, "fbdacef" * 2), ("fbdacef", 2))

    def test_against_all_prefixes(self):
        for alphabet in alphabets("abc"):
            for word in words_up_to("abc", 4)[1:]:
                self.assertEqual(root(alphabet, word), self.plain(alphabet, word), (alphabet, word))
                for n in (2, 3):
                    if len(word) * n <= 6:
                        self.assertEqual(root(alphabet, word * n), self.plain(alphabet, word * n))
        for alphabet in SEVERAL:
            for word in some_words(alphabet, 2, 4) + some_words(alphabet, 3, 4):
                self.assertEqual(root(alphabet, word * 2), self.plain(alphabet, word * 2), (alphabet, word))

    def test_roots_and_powers(self):
        for alphabet in SEVERAL:
            for word in some_words(alphabet, 7, 10):
                base, exponent = root(alphabet, word)
                self.assertEqual(power(alphabet, base, exponent), least(alphabet, word))
                self.assertEqual(root(alphabet, word * 2), (base, exponent * 2))
                self.assertEqual(root(alphabet, base), (base, 1))


class LongWords(unittest.TestCase):
    def test_words_of_fourteen_letters_take_no_noticeable_time(self):
        word = "fbdacefbdacefb"
        for alphabet in (ALL_FREE, MIXED, ROW, STAR, NO_PAIRS):
            for reckon, *more in ((components, word), (root, word), (power, word, 2)):
                began = time.perf_counter()
                reckon(alphabet, *more)
                self.assertLess(time.perf_counter() - began, 1, (reckon, alphabet))


if __name__ == "__main__":
    unittest.main()
