"""traceclasses/counting.py: [n1], the numbers of words and prefixes, the places of traces."""

import itertools
import math
import time
import unittest

from by_search import (
    ALL_FREE, ALL_PAIRS, EXAMPLE, GAPS, LOTS, MIXED, NO_PAIRS, ONE_LETTER, ROW, SEVERAL, STAR,
    all_prefixes, alphabets, are_free, least_words, reached, some_words, words_up_to,
)
from traceclasses.counting import (
    cliques, count_prefixes, count_traces, count_words, nth, place_of, traces,
)
from traceclasses.forms import least


class Cliques(unittest.TestCase):
    def plain(self, alphabet):
        found = []
        for many in range(len(alphabet[1]) + 1):
            for lot in itertools.combinations(alphabet[1], many):
                if all(are_free(alphabet, x, y) for x, y in itertools.combinations(lot, 2)):
                    found.append("".join(lot))
        return tuple(sorted(found, key=lambda clique: (len(clique), clique)))

    def test_by_hand(self):
        self.assertEqual(cliques(EXAMPLE), ("", "a", "b", "c", "d", "ac", "bd"))
        self.assertEqual(cliques(GAPS), ("", "b", "d", "f", "bf"))
        self.assertEqual(cliques(("alphabet", "abc", ("ab", "bc"))), ("", "a", "b", "c", "ab", "bc"))
        self.assertEqual(cliques(("alphabet", "abc", ("ab", "ac", "bc"))),
                         ("", "a", "b", "c", "ab", "ac", "bc", "abc"))

    def test_edges(self):
        self.assertEqual(cliques(ONE_LETTER), ("", "c"))
        self.assertEqual(cliques(NO_PAIRS), ("", "a", "b", "c", "d", "e", "f"))
        self.assertEqual(len(cliques(ALL_FREE)), 64)
        self.assertEqual(cliques(ALL_FREE)[-2:], ("bcdef", "abcdef"))
        self.assertEqual(cliques(ALL_FREE)[7:22], ALL_PAIRS)

    def test_against_all_lots_of_letters(self):
        for alphabet in itertools.chain(alphabets("abcd"), SEVERAL):
            self.assertEqual(cliques(alphabet), self.plain(alphabet))


class CountWordsAndPrefixes(unittest.TestCase):
    def compare(self, alphabet, word):
        self.assertEqual(count_words(alphabet, word), len(reached(alphabet, word)), (alphabet, word))
        self.assertEqual(count_prefixes(alphabet, word), len(all_prefixes(alphabet, word)), (alphabet, word))

    def test_by_hand(self):
        self.assertEqual(count_words(EXAMPLE, "cadb"), 4)
        self.assertEqual(count_prefixes(EXAMPLE, "cadb"), 7)
        self.assertEqual(count_words(EXAMPLE, "aacc"), 6)
        self.assertEqual(count_prefixes(EXAMPLE, "aacc"), 9)

    def test_edges(self):
        for alphabet in SEVERAL:
            letter = alphabet[1][0]
            self.assertEqual(count_words(alphabet, ""), 1)
            self.assertEqual(count_prefixes(alphabet, ""), 1)
            self.assertEqual(count_words(alphabet, letter * 14), 1)
            self.assertEqual(count_prefixes(alphabet, letter * 14), 15)
        self.assertEqual(count_words(NO_PAIRS, "fbdacefbdacefb"), 1)
        self.assertEqual(count_prefixes(NO_PAIRS, "fbdacefbdacefb"), 15)

    def test_all_letters_independent(self):
        word = "fbdacefbdacefb"
        self.assertEqual(count_words(ALL_FREE, word), math.factorial(14) // (6 * 6 * 2 * 2 * 2 * 2))
        self.assertEqual(count_prefixes(ALL_FREE, word), 4 * 4 * 3 * 3 * 3 * 3)
        self.assertEqual(count_words(ALL_FREE, "a" * 7 + "f" * 7), math.comb(14, 7))
        self.assertEqual(count_prefixes(ALL_FREE, "a" * 7 + "f" * 7), 64)

    def test_lots_of_letters_that_are_independent_of_one_another(self):
        self.assertEqual(count_words(LOTS, "abcabca" + "defdefd"), math.comb(14, 7))
        self.assertEqual(count_prefixes(LOTS, "abcabca" + "defdefd"), 64)

    def test_against_all_alike_words(self):
        for alphabet in alphabets("abc"):
            for word in words_up_to("abc", 4):
                self.compare(alphabet, word)
        for alphabet in SEVERAL:
            for n in (6, 7):
                for word in some_words(alphabet, n, 4):
                    self.compare(alphabet, word)


class CountTraces(unittest.TestCase):
    def test_the_example_of_the_document(self):
        self.assertEqual(count_traces(EXAMPLE, 2), 14)

    def test_against_all_words(self):
        for alphabet in alphabets("abc"):
            for n in range(6):
                self.assertEqual(count_traces(alphabet, n), len(least_words(alphabet, n)), (alphabet, n))
        for alphabet in SEVERAL:
            for n in range(4):
                self.assertEqual(count_traces(alphabet, n), len(least_words(alphabet, n)), (alphabet, n))

    def test_edges(self):
        for alphabet in SEVERAL:
            self.assertEqual(count_traces(alphabet, 0), 1)
            self.assertEqual(count_traces(alphabet, 1), len(alphabet[1]))
            self.assertEqual(count_traces(alphabet, -1), 0)
        for n in range(15):
            self.assertEqual(count_traces(ONE_LETTER, n), 1)
            self.assertEqual(count_traces(NO_PAIRS, n), 6 ** n)
            self.assertEqual(count_traces(ALL_FREE, n), math.comb(n + 5, 5))

    def test_the_sum_over_all_cliques_is_none(self):
        for alphabet in SEVERAL:
            for n in range(1, 15):
                total = 0
                for clique in cliques(alphabet):
                    total += (-1) ** len(clique) * count_traces(alphabet, n - len(clique))
                self.assertEqual(total, 0, (alphabet, n))


class Traces(unittest.TestCase):
    def test_by_hand(self):
        self.assertEqual(traces(GAPS, 2), ("bb", "bd", "bf", "db", "dd", "df", "fd", "ff"))
        self.assertEqual(traces(("alphabet", "ab", ("ab",)), 3), ("aaa", "aab", "abb", "bbb"))

    def test_against_all_words(self):
        for alphabet in alphabets("abc"):
            for n in range(6):
                self.assertEqual(traces(alphabet, n), tuple(least_words(alphabet, n)), (alphabet, n))
        for alphabet in SEVERAL:
            for n in range(4):
                self.assertEqual(traces(alphabet, n), tuple(least_words(alphabet, n)), (alphabet, n))
        self.assertEqual(traces(ROW, 5), tuple(least_words(ROW, 5)))

    def test_edges(self):
        for alphabet in SEVERAL:
            self.assertEqual(traces(alphabet, 0), ("",))
            self.assertEqual(traces(alphabet, 1), tuple(alphabet[1]))
            self.assertEqual(len(traces(alphabet, 5)), count_traces(alphabet, 5))
        self.assertEqual(traces(ONE_LETTER, 5), ("ccccc",))


class Places(unittest.TestCase):
    def test_by_hand(self):
        self.assertEqual(nth(GAPS, 2, 0), "bb")
        self.assertEqual(nth(GAPS, 2, 6), "fd")
        self.assertEqual(place_of(GAPS, "fd"), 6)
        self.assertEqual(place_of(GAPS, "bf"), 2)
        self.assertEqual(place_of(GAPS, "fb"), 2)

    def test_all_places_of_small_numbers(self):
        for alphabet in itertools.chain(alphabets("abc"), SEVERAL):
            for n in range(5 if len(alphabet[1]) < 5 else 4):
                for place, word in enumerate(least_words(alphabet, n)):
                    self.assertEqual(nth(alphabet, n, place), word, (alphabet, n, place))
                    self.assertEqual(place_of(alphabet, word), place, (alphabet, word))
                    self.assertEqual(place_of(alphabet, max(reached(alphabet, word))), place, (alphabet, word))

    def test_edges(self):
        for alphabet in SEVERAL:
            self.assertEqual(nth(alphabet, 0, 0), "")
            self.assertEqual(place_of(alphabet, ""), 0)
            self.assertEqual(nth(alphabet, 14, 0), alphabet[1][0] * 14)
            self.assertEqual(nth(alphabet, 14, count_traces(alphabet, 14) - 1), alphabet[1][-1] * 14)
            self.assertEqual(place_of(alphabet, alphabet[1][-1] * 14), count_traces(alphabet, 14) - 1)

    def test_words_of_fourteen_letters(self):
        for alphabet in SEVERAL:
            for word in some_words(alphabet, 14, 30):
                place = place_of(alphabet, word)
                self.assertTrue(0 <= place < count_traces(alphabet, 14))
                self.assertEqual(nth(alphabet, 14, place), least(alphabet, word), (alphabet, word))

    def test_places_of_fourteen_letters(self):
        for alphabet in SEVERAL:
            many = count_traces(alphabet, 14)
            before = ""
            for place in sorted({many * k // 40 for k in range(40)}):
                word = nth(alphabet, 14, place)
                self.assertEqual(least(alphabet, word), word)
                self.assertEqual(place_of(alphabet, word), place)
                self.assertLess(before, word)
                before = word


class LongWords(unittest.TestCase):
    def test_words_of_fourteen_letters_take_no_noticeable_time(self):
        for alphabet in (ALL_FREE, MIXED, ROW, STAR, NO_PAIRS):
            for word in ("aaabbbccddeeff", "fbdacefbdacefb"):
                for reckon, *more in (
                    (count_words, word), (count_prefixes, word), (place_of, word),
                    (count_traces, 14), (nth, 14, count_traces(alphabet, 14) // 2),
                ):
                    began = time.perf_counter()
                    reckon(alphabet, *more)
                    self.assertLess(time.perf_counter() - began, 1, (reckon, alphabet, word))


if __name__ == "__main__":
    unittest.main()
