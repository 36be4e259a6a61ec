"""traceclasses/graphs.py: [c4], [f2], and what can stand first, last and side by side."""

import itertools
import time
import unittest

from by_search import (
    ALL_FREE, EXAMPLE, MIXED, NO_PAIRS, ONE_LETTER, ROW, SEVERAL, STAR,
    alphabets, places_before, reached, some_words, words_up_to,
)
from traceclasses.forms import steps
from traceclasses.graphs import firsts, graph, height, lasts, width


def plain_graph(alphabet, word):
    before = places_before(alphabet, word)
    return tuple(tuple(sorted(j for j in row if not any(j in before[i] for i in row))) for row in before)


def plain_width(alphabet, word):
    """By trying all lots of places."""
    before = places_before(alphabet, word)
    most = 0
    for many in range(len(word) + 1):
        for lot in itertools.combinations(range(len(word)), many):
            if not any(j in before[k] for j, k in itertools.combinations(lot, 2)):
                most = many
    return most


class Graph(unittest.TestCase):
    def test_by_hand(self):
        self.assertEqual(graph(EXAMPLE, "cadb"), ((), (), (0, 1), (0, 1)))
        self.assertEqual(graph(EXAMPLE, "abcd"), ((), (0,), (1,), (2,)))
        self.assertEqual(graph(EXAMPLE, "acbd"), ((), (), (0, 1), (0, 1)))
        self.assertEqual(graph(EXAMPLE, "acca"), ((), (), (1,), (0,)))
        self.assertEqual(graph(EXAMPLE, "aba"), ((), (0,), (1,)))

    def test_edges(self):
        for alphabet in SEVERAL:
            self.assertEqual(graph(alphabet, ""), ())
            letter = alphabet[1][-1]
            self.assertEqual(graph(alphabet, letter), ((),))
            self.assertEqual(graph(alphabet, letter * 4), ((), (0,), (1,), (2,)))
        self.assertEqual(graph(ALL_FREE, "abcdef"), ((),) * 6)
        self.assertEqual(graph(ALL_FREE, "abcabc"), ((), (), (), (0,), (1,), (2,)))
        self.assertEqual(graph(NO_PAIRS, "fedcba"), ((), (0,), (1,), (2,), (3,), (4,)))
        self.assertEqual(graph(STAR, "bcdefa"), ((),) * 5 + ((0, 1, 2, 3, 4),))
        self.assertEqual(graph(STAR, "abcdef"), ((),) + ((0,),) * 5)

    def test_a_place_that_stands_before_through_others_only(self):
        self.assertEqual(graph(EXAMPLE, "abc"), ((), (0,), (1,)))
        self.assertEqual(graph(ROW, "abcdef"), ((), (0,), (1,), (2,), (3,), (4,)))

    def test_against_a_plain_reckoning(self):
        for alphabet in alphabets("abc"):
            for word in words_up_to("abc", 5):
                self.assertEqual(graph(alphabet, word), plain_graph(alphabet, word), (alphabet, word))
        for alphabet in SEVERAL:
            for n in (6, 9, 14):
                for word in some_words(alphabet, n, 30):
                    self.assertEqual(graph(alphabet, word), plain_graph(alphabet, word), (alphabet, word))

    def test_kinds(self):
        told = graph(EXAMPLE, "acbd")
        self.assertIs(type(told), tuple)
        self.assertEqual({type(row) for row in told}, {tuple})
        self.assertEqual({type(place) for row in told for place in row}, {int})


class FirstsAndLasts(unittest.TestCase):
    def test_by_hand(self):
        self.assertEqual(firsts(EXAMPLE, "cadb"), "ac")
        self.assertEqual(lasts(EXAMPLE, "cadb"), "bd")
        self.assertEqual(firsts(EXAMPLE, "ccab"), "ac")
        self.assertEqual(lasts(EXAMPLE, "baac"), "ac")
        self.assertEqual(firsts(EXAMPLE, "cba"), "c")
        self.assertEqual(lasts(EXAMPLE, "abc"), "c")

    def test_a_letter_that_passes_one_but_not_all_ahead_of_it(self):
        self.assertEqual(firsts(EXAMPLE, "cdab"), "c")
        self.assertEqual(firsts(EXAMPLE, "bca"), "b")
        self.assertEqual(lasts(EXAMPLE, "acb"), "b")

    def test_edges(self):
        for alphabet in SEVERAL:
            letter = alphabet[1][0]
            self.assertEqual(firsts(alphabet, ""), "")
            self.assertEqual(lasts(alphabet, ""), "")
            self.assertEqual(firsts(alphabet, letter * 14), letter)
            self.assertEqual(lasts(alphabet, letter * 14), letter)
        self.assertEqual(firsts(ALL_FREE, "fbdaceffbdaacc"), "abcdef")
        self.assertEqual(lasts(ALL_FREE, "fbdaceffbdaacc"), "abcdef")
        self.assertEqual(firsts(NO_PAIRS, "fbdace"), "f")
        self.assertEqual(lasts(NO_PAIRS, "fbdace"), "e")

    def compare(self, alphabet, word):
        alike = reached(alphabet, word)
        self.assertEqual(firsts(alphabet, word), "".join(sorted({w[0] for w in alike if w})), (alphabet, word))
        self.assertEqual(lasts(alphabet, word), "".join(sorted({w[-1] for w in alike if w})), (alphabet, word))

    def test_against_all_alike_words(self):
        for alphabet in alphabets("abc"):
            for word in words_up_to("abc", 5):
                self.compare(alphabet, word)
        for alphabet in SEVERAL:
            for word in some_words(alphabet, 6, 20):
                self.compare(alphabet, word)


class Height(unittest.TestCase):
    def test_by_hand(self):
        self.assertEqual(height(EXAMPLE, "cadb"), 2)
        self.assertEqual(height(EXAMPLE, "abc"), 3)
        self.assertEqual(height(EXAMPLE, "aaac"), 3)

    def test_edges(self):
        for alphabet in SEVERAL:
            self.assertEqual(height(alphabet, ""), 0)
            self.assertEqual(height(alphabet, alphabet[1][0]), 1)
            self.assertEqual(height(alphabet, alphabet[1][0] * 14), 14)
        self.assertEqual(height(ALL_FREE, "fedcba"), 1)
        self.assertEqual(height(ALL_FREE, "fedcbaf"), 2)
        self.assertEqual(height(NO_PAIRS, "fedcba"), 6)

    def test_it_is_the_longest_row_of_places_one_before_the_next(self):
        for alphabet in SEVERAL:
            for word in some_words(alphabet, 9, 20):
                longest = []
                for row in places_before(alphabet, word):
                    longest.append(1 + max((longest[j] for j in row), default=0))
                self.assertEqual(height(alphabet, word), max(longest), (alphabet, word))
                self.assertEqual(height(alphabet, word), len(steps(alphabet, word)))


class Width(unittest.TestCase):
    def test_by_hand(self):
        self.assertEqual(width(EXAMPLE, "cadb"), 2)
        self.assertEqual(width(EXAMPLE, "abcd"), 1)
        self.assertEqual(width(EXAMPLE, "aacc"), 2)

    def test_the_letters_may_be_independent_and_stand_before_one_another(self):
        self.assertEqual(width(EXAMPLE, "abc"), 1)
        self.assertEqual(width(STAR, "bac"), 1)
        self.assertEqual(width(STAR, "bacd"), 2)
        self.assertEqual(width(STAR, "bcade"), 2)

    def test_the_most_are_not_firsts_and_not_lasts(self):
        self.assertEqual(width(STAR, "abcdefa"), 5)

    def test_edges(self):
        for alphabet in SEVERAL:
            self.assertEqual(width(alphabet, ""), 0)
            self.assertEqual(width(alphabet, alphabet[1][0]), 1)
            self.assertEqual(width(alphabet, alphabet[1][0] * 14), 1)
        self.assertEqual(width(ALL_FREE, "fbdaceffbdaacc"), 6)
        self.assertEqual(width(ALL_FREE, "ffbbdd"), 3)
        self.assertEqual(width(NO_PAIRS, "fbdaceffbdaacc"), 1)
        self.assertEqual(width(ONE_LETTER, "ccc"), 1)

    def test_against_all_lots_of_places(self):
        for alphabet in alphabets("abc"):
            for word in words_up_to("abc", 4):
                self.assertEqual(width(alphabet, word), plain_width(alphabet, word), (alphabet, word))
        for alphabet in SEVERAL:
            for word in some_words(alphabet, 8, 15):
                self.assertEqual(width(alphabet, word), plain_width(alphabet, word), (alphabet, word))


class LongWords(unittest.TestCase):
    def test_words_of_fourteen_letters_take_no_noticeable_time(self):
        for alphabet in (ALL_FREE, MIXED, ROW, STAR, NO_PAIRS):
            for word in ("aaabbbccddeeff", "fbdacefbdacefb"):
                for reckon in (width, graph, height, firsts, lasts):
                    began = time.perf_counter()
                    reckon(alphabet, word)
                    self.assertLess(time.perf_counter() - began, 1, (reckon, alphabet, word))


if __name__ == "__main__":
    unittest.main()
