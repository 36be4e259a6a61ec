"""traceclasses/forms.py: [c2] (alike words, the least one), [f1]."""

import itertools
import time
import unittest

from by_search import (
    ALL_FREE, EXAMPLE, GAPS, MIXED, NO_PAIRS, ONE_LETTER, ROW, SEVERAL, STAR,
    alphabets, are_free, reached, some_words, words_up_to,
)
from traceclasses.exchanges import parts
from traceclasses.forms import greatest, least, steps, words_of
from traceclasses.graphs import height


class WordsOf(unittest.TestCase):
    def compare(self, alphabet, word):
        self.assertEqual(words_of(alphabet, word), tuple(sorted(reached(alphabet, word))), (alphabet, word))

    def test_by_hand(self):
        self.assertEqual(words_of(EXAMPLE, "cadb"), ("acbd", "acdb", "cabd", "cadb"))
        self.assertEqual(words_of(EXAMPLE, "aca"), ("aac", "aca", "caa"))
        self.assertEqual(words_of(EXAMPLE, "abc"), ("abc",))
        self.assertEqual(words_of(GAPS, "fdbf"), ("fdbf", "fdfb"))

    def test_edges(self):
        for alphabet in SEVERAL:
            self.assertEqual(words_of(alphabet, ""), ("",))
            letter = alphabet[1][-1]
            self.assertEqual(words_of(alphabet, letter), (letter,))
            self.assertEqual(words_of(alphabet, letter * 8), (letter * 8,))
        self.assertEqual(words_of(NO_PAIRS, "fbdacefb"), ("fbdacefb",))
        self.assertEqual(words_of(ALL_FREE, "bac"), ("abc", "acb", "bac", "bca", "cab", "cba"))
        self.assertEqual(len(words_of(ALL_FREE, "fbdacefb")), 10080)

    def test_against_breadth_first_search(self):
        for alphabet in alphabets("abc"):
            for word in words_up_to("abc", 4):
                self.compare(alphabet, word)
        for alphabet in SEVERAL:
            for n in (5, 6, 7):
                for word in some_words(alphabet, n, 8):
                    self.compare(alphabet, word)

    def test_words_of_eight_letters(self):
        for alphabet in (EXAMPLE, MIXED, ROW, STAR, NO_PAIRS):
            for word in some_words(alphabet, 8, 4):
                self.compare(alphabet, word)
        self.compare(ALL_FREE, "aabbccde")


class LeastAndGreatest(unittest.TestCase):
    def test_the_example_of_the_document(self):
        self.assertEqual(least(EXAMPLE, "cadb"), "acbd")
        self.assertEqual(greatest(EXAMPLE, "cadb"), "cadb")
        self.assertEqual(greatest(EXAMPLE, "acbd"), "cadb")

    def test_a_lesser_letter_may_be_kept_behind(self):
        self.assertEqual(least(EXAMPLE, "cba"), "cba")
        self.assertEqual(least(EXAMPLE, "dcba"), "dcba")
        self.assertEqual(least(STAR, "fbac"), "bfac")
        self.assertEqual(greatest(STAR, "bfac"), "fbac")

    def test_edges(self):
        for alphabet in SEVERAL:
            for word in ("", alphabet[1][0], alphabet[1][0] * 14):
                self.assertEqual(least(alphabet, word), word)
                self.assertEqual(greatest(alphabet, word), word)
        self.assertEqual(least(ALL_FREE, "fbdaceffbdaacc"), "aaabbcccddefff")
        self.assertEqual(greatest(ALL_FREE, "fbdaceffbdaacc"), "fffeddcccbbaaa")
        self.assertEqual(least(NO_PAIRS, "fbdaceffbdaacc"), "fbdaceffbdaacc")
        self.assertEqual(greatest(NO_PAIRS, "fbdaceffbdaacc"), "fbdaceffbdaacc")

    def test_they_are_the_first_and_the_last_of_all_alike_words(self):
        for alphabet in itertools.chain(alphabets("abc"), SEVERAL):
            for word in words_up_to("abc", 4) if alphabet[1] == "abc" else some_words(alphabet, 7, 10):
                alike = reached(alphabet, word)
                for other in alike:
                    self.assertEqual(least(alphabet, other), min(alike))
                    self.assertEqual(greatest(alphabet, other), max(alike))

    def test_words_that_are_not_alike_have_unlike_least_words(self):
        for alphabet in alphabets("abc"):
            for word, other in itertools.combinations(words_up_to("abc", 3), 2):
                alike = parts(alphabet, word, other) is None
                self.assertIs(least(alphabet, word) == least(alphabet, other), alike)
                self.assertIs(greatest(alphabet, word) == greatest(alphabet, other), alike)


class Steps(unittest.TestCase):
    def check(self, alphabet, word):
        """All that [f1] says of them; just one tuple is so."""
        told = steps(alphabet, word)
        self.assertIs(type(told), tuple)
        self.assertEqual(height(alphabet, word), len(told))
        for step in told:
            self.assertNotEqual(step, "")
            self.assertEqual(list(step), sorted(set(step)))
            for x, y in itertools.combinations(step, 2):
                self.assertTrue(are_free(alphabet, x, y), (alphabet, word))
        for step, behind in itertools.pairwise(told):
            for y in behind:
                self.assertFalse(all(are_free(alphabet, x, y) for x in step), (alphabet, word))
        self.assertIsNone(parts(alphabet, "".join(told), word))
        return told

    def test_the_example_of_the_document(self):
        self.assertEqual(steps(EXAMPLE, "cadb"), ("ac", "bd"))

    def test_by_hand(self):
        self.assertEqual(steps(EXAMPLE, "abcd"), ("a", "b", "c", "d"))
        self.assertEqual(steps(EXAMPLE, "aac"), ("ac", "a"))
        self.assertEqual(steps(EXAMPLE, "acac"), ("ac", "ac"))
        self.assertEqual(steps(STAR, "fbacb"), ("bf", "a", "bc"))
        self.assertEqual(steps(ROW, "dcab"), ("ad", "c", "b"))

    def test_edges(self):
        for alphabet in SEVERAL:
            letter = alphabet[1][0]
            self.assertEqual(steps(alphabet, ""), ())
            self.assertEqual(steps(alphabet, letter), (letter,))
            self.assertEqual(steps(alphabet, letter * 14), (letter,) * 14)
        self.assertEqual(steps(ALL_FREE, "fbdaceffbdaacc"), ("abcdef", "abcdf", "acf"))
        self.assertEqual(steps(NO_PAIRS, "fbda"), ("f", "b", "d", "a"))
        self.assertEqual(steps(ONE_LETTER, "cc"), ("c", "c"))

    def test_what_they_must_be(self):
        for alphabet in alphabets("abc"):
            for word in words_up_to("abc", 5):
                self.check(alphabet, word)
        for alphabet in SEVERAL:
            for word in some_words(alphabet, 14, 20):
                self.check(alphabet, word)

    def test_alike_words_have_the_same_steps(self):
        for alphabet in SEVERAL:
            for word in some_words(alphabet, 7, 10):
                self.assertEqual({steps(alphabet, other) for other in reached(alphabet, word)},
                                 {steps(alphabet, word)})


class LongWords(unittest.TestCase):
    def test_words_of_fourteen_letters_take_no_noticeable_time(self):
        for alphabet in (ALL_FREE, MIXED, ROW, STAR, NO_PAIRS):
            for word in ("aaabbbccddeeff", "fbdacefbdacefb"):
                for reckon in (steps, least, greatest):
                    began = time.perf_counter()
                    reckon(alphabet, word)
                    self.assertLess(time.perf_counter() - began, 1, (reckon, alphabet, word))


if __name__ == "__main__":
    unittest.main()
