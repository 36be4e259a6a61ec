"""traceclasses/levi.py: [x2]."""

import itertools
import time
import unittest

from by_search import (
    ALL_FREE, EXAMPLE, GAPS, MIXED, NO_PAIRS, SEVERAL, STAR,
    alphabets, are_free, reached, some_words, told, words_up_to,
)
from traceclasses.levi import is_levi, levi
from traceclasses.prefixes import meet, prefixes, rest

SQUARE = ("alphabet", "ab", ("ab",))
PLAIN = ("alphabet", "ab", ())


def alike(alphabet, word, other):
    return other in reached(alphabet, word)


def as_told(alphabet, x, y, z, t, pieces):
    """What [x2] says of four pieces."""
    p, r, s, q = pieces
    return (alike(alphabet, x, p + r) and alike(alphabet, y, s + q) and alike(alphabet, z, p + s)
            and alike(alphabet, t, r + q) and all(are_free(alphabet, i, j) for i in r for j in s))


def products(alphabet, word):
    """(x, y, z, t) for all two splits of a word into a prefix and its rest."""
    splits = [(prefix, rest(alphabet, prefix, word)) for prefix in prefixes(alphabet, word)]
    return [(x, y, z, t) for (x, y), (z, t) in itertools.product(splits, repeat=2)]


class Levi(unittest.TestCase):
    def compare(self, alphabet, x, y, z, t):
        pieces = levi(alphabet, x, y, z, t)
        self.assertIs(type(pieces), tuple)
        self.assertTrue(as_told(alphabet, x, y, z, t, pieces), (alphabet, x, y, z, t, pieces))
        self.assertEqual(pieces, tuple(told(alphabet, piece) for piece in pieces))
        self.assertEqual(pieces[0], meet(alphabet, x, z))
        self.assertIs(is_levi(alphabet, x, y, z, t, pieces), True)

    def test_by_hand(self):
        self.assertEqual(levi(EXAMPLE, "ab", "c", "a", "bc"), ("a", "b", "", "c"))
        self.assertEqual(levi(EXAMPLE, "a", "cb", "c", "ab"), ("", "a", "c", "b"))
        self.assertEqual(levi(EXAMPLE, "bca", "cb", "bcc", "ab"), ("bc", "a", "c", "b"))
        self.assertEqual(levi(GAPS, "dff", "bb", "dbb", "ff"), ("d", "ff", "bb", ""))

    def test_products_that_are_not_alike(self):
        for x, y, z, t in (
            ("a", "b", "b", "a"), ("a", "", "", "c"), ("a", "a", "a", ""), ("", "", "", "a"), ("ab", "c", "c", "ab"),
        ):
            self.assertIsNone(levi(EXAMPLE, x, y, z, t))

    def test_empty_words_and_equal_words(self):
        for alphabet in SEVERAL:
            self.assertEqual(levi(alphabet, "", "", "", ""), ("", "", "", ""))
            for n in (1, 5, 14):
                word = some_words(alphabet, n, 1)[0]
                least = rest(alphabet, "", word)
                self.assertEqual(levi(alphabet, word, "", word, ""), (least, "", "", ""))
                self.assertEqual(levi(alphabet, "", word, "", word), ("", "", "", least))
                self.assertEqual(levi(alphabet, word, "", "", word), ("", least, "", ""))
                self.assertEqual(levi(alphabet, "", word, word, ""), ("", "", least, ""))
                self.assertEqual(levi(alphabet, word, word, word, word), (least, "", "", least))

    def test_one_letter_many_times(self):
        for alphabet in SEVERAL:
            letter = alphabet[1][0]
            self.assertEqual(levi(alphabet, letter * 5, letter * 2, letter * 3, letter * 4),
                             (letter * 3, letter * 2, "", letter * 2))

    def test_all_splits_of_short_words(self):
        for alphabet in alphabets("abc"):
            for word in words_up_to("abc", 4):
                if word == told(alphabet, word):
                    for x, y, z, t in products(alphabet, word):
                        self.compare(alphabet, x, y, z, t)

    def test_some_splits_of_longer_words(self):
        for alphabet in SEVERAL:
            for word in some_words(alphabet, 6, 4):
                for x, y, z, t in products(alphabet, word)[::7]:
                    self.compare(alphabet, max(reached(alphabet, x)), y, z, max(reached(alphabet, t)))

    def test_it_tells_none_exactly_where_the_products_are_not_alike(self):
        for alphabet in (SQUARE, PLAIN):
            for x, y, z, t in itertools.product(words_up_to("ab", 2), repeat=4):
                self.assertIs(levi(alphabet, x, y, z, t) is None, not alike(alphabet, x + y, z + t))


class IsLevi(unittest.TestCase):
    def test_words_alike_the_pieces(self):
        self.assertIs(is_levi(EXAMPLE, "bac", "d", "bca", "d", ("bca", "", "", "d")), True)
        self.assertIs(is_levi(EXAMPLE, "bac", "d", "bca", "d", ("bac", "", "", "d")), True)
        self.assertIs(is_levi(EXAMPLE, "bca", "cb", "bcc", "ab", ("bc", "a", "c", "b")), True)
        self.assertIs(is_levi(ALL_FREE, "ab", "cd", "cd", "ab", ("", "ba", "dc", "")), True)

    def test_other_words(self):
        for pieces in (
            ("b", "ca", "cc", "b"), ("bc", "c", "a", "b"), ("bca", "", "c", "b"), ("bc", "a", "c", "bb"),
            ("", "", "", ""), ("bc", "a", "c", ""), ("cb", "a", "c", "b"), ("bc", "a", "", "cb"),
        ):
            self.assertIs(is_levi(EXAMPLE, "bca", "cb", "bcc", "ab", pieces), False, pieces)

    def test_each_of_the_five_points_counts(self):
        right = ("a", "bb", "dd", "c")
        self.assertIs(is_levi(EXAMPLE, "abb", "ddc", "add", "bbc", right), True)
        self.assertIs(is_levi(EXAMPLE, "abbb", "ddc", "add", "bbc", right), False)
        self.assertIs(is_levi(EXAMPLE, "abb", "dcd", "add", "bbc", right), False)
        self.assertIs(is_levi(EXAMPLE, "abb", "ddc", "ad", "bbc", right), False)
        self.assertIs(is_levi(EXAMPLE, "abb", "ddc", "add", "bcb", right), False)
        self.assertIs(is_levi(EXAMPLE, "aa", "b", "aa", "b", ("aa", "", "", "b")), True)
        self.assertIs(is_levi(EXAMPLE, "aa", "ab", "aa", "ab", ("a", "a", "a", "b")), False)

    def test_letters_that_are_none_of_the_alphabet(self):
        self.assertIs(is_levi(EXAMPLE, "a", "c", "c", "a", ("", "a", "c", "")), True)
        for pieces in (("e", "a", "c", ""), ("", "az", "c", ""), ("", "a", "c", " "), ("", "A", "c", "")):
            self.assertIs(is_levi(EXAMPLE, "a", "c", "c", "a", pieces), False, pieces)

    def test_other_kinds_of_values(self):
        for pieces in (
            None, 0, 4, True, "", "ac", ["", "a", "c", ""], {}, {"": "", "a": "c"}, (), ("",), ("", "a", "c"),
            ("", "a", "c", "", ""), ("", "a", "c", None), (0, "a", "c", ""), (None, None, None, None),
            ("", ("a",), "c", ""), ("", ["a"], "c", ""), ("", "a", b"c", ""), (("", "a", "c", ""),), b"",
            {"", "a", "c"}, ("", "a", "c", True), 1.5, object(), ([], "a", "c", ""), ((), "a", "c", ()),
        ):
            self.assertIs(is_levi(EXAMPLE, "a", "c", "c", "a", pieces), False, pieces)
            self.assertIs(is_levi(EXAMPLE, "", "", "", "", pieces), False, pieces)

    def test_products_that_are_not_alike(self):
        for pieces in itertools.product(("", "a", "b"), repeat=4):
            self.assertIs(is_levi(EXAMPLE, "a", "b", "b", "a", pieces), False)

    def test_all_tuples_of_short_words(self):
        for alphabet in (SQUARE, PLAIN):
            tuples = list(itertools.product(words_up_to("ab", 2), repeat=4))
            for x, y, z, t in (
                ("", "", "", ""), ("a", "b", "b", "a"), ("ab", "", "a", "b"), ("ab", "ba", "ba", "ab"),
                ("ba", "ab", "ab", "ab"), ("aa", "b", "b", "aa"), ("a", "ab", "aa", "b"),
            ):
                for pieces in tuples:
                    self.assertIs(is_levi(alphabet, x, y, z, t, pieces),
                                  as_told(alphabet, x, y, z, t, pieces), (alphabet, x, y, z, t, pieces))


class LongWords(unittest.TestCase):
    def test_words_of_fourteen_letters_take_no_noticeable_time(self):
        word = "fbdacefbdacefb"
        for alphabet in (ALL_FREE, MIXED, STAR, NO_PAIRS):
            began = time.perf_counter()
            pieces = levi(alphabet, word, word, word, word)
            self.assertIs(is_levi(alphabet, word, word, word, word, pieces), True)
            self.assertLess(time.perf_counter() - began, 1, alphabet)
        self.assertEqual(levi(ALL_FREE, "abcdef" * 2, "a", "a" * 3, "bcdef" * 2), ("aa", "bbccddeeff", "a", ""))


if __name__ == "__main__":
    unittest.main()
