"""traceclasses/exchanges.py: [c2], [c3], [e2], [e3]."""

import itertools
import random
import time
import unittest

from by_search import ALL_FREE, EXAMPLE, MIXED, alphabets, neighbours, reached, words_up_to
from traceclasses.errors import AlphabetFault, ExchangeFault, TraceFault
from traceclasses.exchanges import distance, exchanged, exchanges, parts


def crossed(word, other):
    """How many pairs of numbered letters stand in the other order in the other word."""
    def numbered(text):
        return [(x, text[:k].count(x)) for k, x in enumerate(text)]
    behind = {x: k for k, x in enumerate(numbered(other))}
    return sum(behind[x] > behind[y] for x, y in itertools.combinations(numbered(word), 2))


class ByHand(unittest.TestCase):
    def test_the_example_of_the_document(self):
        self.assertEqual(parts(EXAMPLE, "abc", "bac"), ("order", "a", "b"))
        places = exchanges(EXAMPLE, "cabd", "acdb")
        self.assertEqual(len(places), 2)
        self.assertEqual(exchanged(EXAMPLE, "cabd", places), "acdb")

    def test_parts_by_count_tells_the_least_letter(self):
        self.assertEqual(parts(EXAMPLE, "abcd", "abc"), ("count", "d"))
        self.assertEqual(parts(EXAMPLE, "aabc", "abbc"), ("count", "a"))
        self.assertEqual(parts(EXAMPLE, "ddcc", "dccb"), ("count", "b"))
        self.assertEqual(parts(EXAMPLE, "", "c"), ("count", "c"))
        self.assertEqual(parts(EXAMPLE, "db", ""), ("count", "b"))

    def test_parts_by_count_comes_ahead_of_the_order(self):
        self.assertEqual(parts(EXAMPLE, "bad", "ab"), ("count", "d"))

    def test_parts_by_order_tells_the_first_pair(self):
        none = ("alphabet", "abcd", ())
        self.assertEqual(parts(none, "cba", "abc"), ("order", "a", "b"))
        self.assertEqual(parts(none, "acb", "abc"), ("order", "b", "c"))
        self.assertEqual(parts(none, "dacb", "adbc"), ("order", "a", "d"))
        self.assertEqual(parts(("alphabet", "abc", ("ab",)), "cba", "abc"), ("order", "a", "c"))
        self.assertEqual(parts(("alphabet", "abc", ("ab", "ac")), "cba", "abc"), ("order", "b", "c"))
        self.assertEqual(parts(EXAMPLE, "dacb", "adbc"), ("order", "a", "d"))

    def test_parts_by_order_of_letters_that_stand_apart(self):
        self.assertEqual(parts(EXAMPLE, "acb", "bca"), ("order", "a", "b"))
        self.assertEqual(parts(EXAMPLE, "aba", "baa"), ("order", "a", "b"))

    def test_alike_words(self):
        self.assertIsNone(parts(EXAMPLE, "", ""))
        self.assertIsNone(parts(EXAMPLE, "abc", "abc"))
        self.assertIsNone(parts(EXAMPLE, "cabd", "acdb"))
        self.assertIsNone(parts(ALL_FREE, "fedcba", "abcdef"))

    def test_equal_words_need_no_exchange(self):
        for word in ("", "a", "abcd", "aaaa", "abcdabcdabcdab"):
            self.assertEqual(exchanges(EXAMPLE, word, word), ())
            self.assertEqual(distance(EXAMPLE, word, word), 0)
            self.assertEqual(exchanged(EXAMPLE, word, ()), word)

    def test_words_that_are_not_alike(self):
        for word, other in (("abc", "bac"), ("a", "c"), ("a", ""), ("", "a"), ("ac", "aca"), ("aba", "aab")):
            self.assertIsNone(exchanges(EXAMPLE, word, other))
            self.assertIsNone(distance(EXAMPLE, word, other))

    def test_alike_letters_do_not_pass_one_another(self):
        self.assertEqual(distance(EXAMPLE, "aac", "caa"), 2)
        self.assertEqual(distance(EXAMPLE, "aacc", "ccaa"), 4)
        self.assertEqual(distance(EXAMPLE, "acac", "caca"), 2)
        self.assertEqual(distance(ALL_FREE, "abcdef", "fedcba"), 15)

    def test_answers_are_tuples_of_whole_numbers(self):
        places = exchanges(EXAMPLE, "aacc", "ccaa")
        self.assertIs(type(places), tuple)
        self.assertEqual({type(place) for place in places}, {int})
        self.assertIs(type(distance(EXAMPLE, "aacc", "ccaa")), int)
        self.assertIs(type(parts(EXAMPLE, "ab", "ba")), tuple)


class AllShortWords(unittest.TestCase):
    def compare(self, alphabet, word, far, other):
        told = parts(alphabet, word, other)
        places = exchanges(alphabet, word, other)
        self.assertEqual(distance(alphabet, word, other), far.get(other))
        if other not in far:
            self.assertIn(told[0], ("count", "order"))
            self.assertIsNone(places)
            return
        self.assertIsNone(told)
        self.assertEqual(len(places), far[other])
        self.assertEqual(far[other], crossed(word, other))
        now = word
        for place in places:
            now = dict(neighbours(alphabet, now))[place]
        self.assertEqual(now, other)
        self.assertEqual(exchanged(alphabet, word, places), other)

    def test_against_breadth_first_search(self):
        words = words_up_to("abc", 4)
        for alphabet in alphabets("abc"):
            for word in words:
                far = reached(alphabet, word)
                for other in words:
                    if abs(len(word) - len(other)) < 2:
                        self.compare(alphabet, word, far, other)

    def test_the_letters_of_six_in_all_orders(self):
        for word in ("abcdef", "fbdaec"):
            far = reached(MIXED, word)
            for other in itertools.permutations("abcdef"):
                self.compare(MIXED, word, far, "".join(other))

    def test_each_word_that_exchanges_reach_from_a_longer_one(self):
        for word in ("abcdabcdabcd", "aaccbbddacbd", "cacabdbdca"):
            far = reached(EXAMPLE, word)
            for other in sorted(far)[::5]:
                self.compare(EXAMPLE, word, far, other)


class Exchanged(unittest.TestCase):
    def number(self, alphabet, word, places):
        with self.assertRaises(ExchangeFault) as caught:
            exchanged(alphabet, word, places)
        self.assertIsInstance(caught.exception, TraceFault)
        self.assertIsInstance(caught.exception, ValueError)
        self.assertNotIsInstance(caught.exception, AlphabetFault)
        return caught.exception.number

    def test_the_word_behind_them(self):
        self.assertEqual(exchanged(EXAMPLE, "ac", (0,)), "ca")
        self.assertEqual(exchanged(EXAMPLE, "ac", (0, 0)), "ac")
        self.assertEqual(exchanged(EXAMPLE, "baca", (1,)), "bcaa")
        self.assertEqual(exchanged(EXAMPLE, "aac", (1, 0)), "caa")
        self.assertEqual(exchanged(EXAMPLE, "acbd", (2, 0, 2)), "cabd")
        self.assertEqual(exchanged(ALL_FREE, "abcdef", (4,)), "abcdfe")

    def test_places_that_are_none(self):
        for place in (-1, -2, -3, -4, -5, 3, 4, 100, -100, 10 ** 20):
            self.assertEqual(self.number(ALL_FREE, "abcd", (place,)), 0, place)
        for place in (-1, 0, 1):
            self.assertEqual(self.number(ALL_FREE, "", (place,)), 0, place)
            self.assertEqual(self.number(ALL_FREE, "a", (place,)), 0, place)

    def test_letters_that_are_dependent(self):
        self.assertEqual(self.number(EXAMPLE, "abcd", (0,)), 0)
        self.assertEqual(self.number(EXAMPLE, "aa", (0,)), 0)
        self.assertEqual(self.number(ALL_FREE, "abbc", (1,)), 0)
        self.assertEqual(self.number(("alphabet", "ab", ()), "ab", (0,)), 0)

    def test_the_number_is_the_first_one_that_is_not_possible(self):
        self.assertEqual(self.number(EXAMPLE, "acbd", (0, 0, 1, -1)), 2)
        self.assertEqual(self.number(EXAMPLE, "acbd", (0, 2, 3, 1)), 2)
        self.assertEqual(self.number(EXAMPLE, "acbd", (-1, 1)), 0)
        self.assertEqual(self.number(EXAMPLE, "acbd", (0, -1)), 1)

    def test_what_is_possible_depends_on_the_exchanges_ahead(self):
        self.assertEqual(exchanged(EXAMPLE, "aca", (1, 1, 0)), "caa")
        self.assertEqual(self.number(EXAMPLE, "aca", (1, 0)), 1)
        self.assertEqual(exchanged(EXAMPLE, "aac", (1, 0)), "caa")
        self.assertEqual(self.number(EXAMPLE, "aac", (0, 1)), 0)
        self.assertEqual(self.number(EXAMPLE, "aca", (0, 1, 0, 1)), 1)
        self.assertEqual(self.number(EXAMPLE, "acb", (0, 1)), 1)


class LongWords(unittest.TestCase):
    def test_words_of_fourteen_letters(self):
        chance = random.Random(14)
        for alphabet in (EXAMPLE, ALL_FREE, ("alphabet", "abcdef", ("ad", "ae", "af", "bd", "be", "bf"))):
            for _ in range(50):
                word = "".join(chance.choice(alphabet[1]) for _ in range(14))
                other = word
                for _ in range(60):
                    around = list(neighbours(alphabet, other))
                    if around:
                        other = chance.choice(around)[1]
                places = exchanges(alphabet, word, other)
                self.assertIsNone(parts(alphabet, word, other))
                self.assertEqual(len(places), crossed(word, other))
                self.assertEqual(distance(alphabet, word, other), len(places))
                self.assertEqual(exchanged(alphabet, word, places), other)

    def test_the_longest_way_takes_no_noticeable_time(self):
        began = time.perf_counter()
        self.assertEqual(distance(ALL_FREE, "aabbccddeeffff", "ffffeeddccbbaa"), 80)
        self.assertEqual(distance(ALL_FREE, "abcdef" * 2 + "ab", "ba" + "fedcba" * 2), 15)
        self.assertEqual(distance(EXAMPLE, "a" * 7 + "c" * 7, "c" * 7 + "a" * 7), 49)
        self.assertIsNone(distance(ALL_FREE, "abcdef" * 2 + "ab", "fedcba" * 2 + "ff"))
        self.assertLess(time.perf_counter() - began, 1)


if __name__ == "__main__":
    unittest.main()
