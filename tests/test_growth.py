"""traceclasses/growth.py: [k4], [n1], the clique polynomial and the numbers of traces."""

import itertools
import math
import unittest

from by_search import (
    ALL_FREE, EXAMPLE, GAPS, LOTS, MIXED, NO_PAIRS, ONE_LETTER, ROW, SEVERAL, STAR,
    all_prefixes, alphabets, are_free, least_words, quick, some_words, told, words_up_to,
)
from traceclasses.alphabets import check
from traceclasses.counting import cliques, count_traces
from traceclasses.growth import count_between, count_modulo, factors, multiplied, polynomial

FIVE = [("alphabet", "abcde", pairs) for pairs in (
    ("ad", "bd", "cd"), ("ac", "bc", "cd", "ce"), ("ab", "ad", "bc", "be", "cd", "de"), ("ae", "be", "ce", "de"))]
# Its lots are abd and ce.
CROSSED = ("alphabet", "abcde", ("ac", "ae", "bc", "be", "cd", "de"))


class Polynomial(unittest.TestCase):
    def plain(self, alphabet):
        counts = [0] * 7
        for many in range(7):
            for lot in itertools.combinations(alphabet[1], many):
                if all(are_free(alphabet, x, y) for x, y in itertools.combinations(lot, 2)):
                    counts[many] += (-1) ** many
        while counts[-1] == 0:
            counts.pop()
        return tuple(counts)

    def test_by_hand(self):
        self.assertEqual(polynomial(EXAMPLE), (1, -4, 2))
        self.assertEqual(polynomial(GAPS), (1, -3, 1))
        self.assertEqual(polynomial(("alphabet", "abc", ("ab", "ac", "bc"))), (1, -3, 3, -1))

    def test_edges(self):
        self.assertEqual(polynomial(ONE_LETTER), (1, -1))
        self.assertEqual(polynomial(NO_PAIRS), (1, -6))
        self.assertEqual(polynomial(ALL_FREE), (1, -6, 15, -20, 15, -6, 1))

    def test_against_all_lots_of_letters(self):
        for alphabet in itertools.chain(alphabets("abcd"), SEVERAL, FIVE):
            self.assertEqual(polynomial(alphabet), self.plain(alphabet), alphabet)

    def test_the_numbers_of_traces_follow_it(self):
        for alphabet in SEVERAL:
            row = polynomial(alphabet)
            for n in range(1, 15):
                self.assertEqual(sum(item * count_traces(alphabet, n - k) for k, item in enumerate(row)), 0)


class Factors(unittest.TestCase):
    def test_by_hand(self):
        self.assertEqual(factors(LOTS), (("alphabet", "abc", ()), ("alphabet", "def", ())))
        self.assertEqual(factors(EXAMPLE), (EXAMPLE,))
        self.assertEqual(factors(("alphabet", "acdf", ("ad", "cd", "df"))),
                         (("alphabet", "acf", ()), ("alphabet", "d", ())))

    def test_letters_and_pairs_rise_in_each(self):
        self.assertEqual(factors(CROSSED), (("alphabet", "abd", ()), ("alphabet", "ce", ())))
        # d joins a and c, and e joins b and these.
        joined = ("alphabet", "abcde", ("ab", "ac", "ae", "bc", "bd", "ce"))
        self.assertEqual(factors(joined), (joined,))
        apart = ("alphabet", "abcdef", tuple(
            pair for pair in ALL_FREE[2] if pair not in ("ad", "cd", "be", "bf")))
        self.assertEqual(factors(apart), (("alphabet", "acd", ("ac",)), ("alphabet", "bef", ("ef",))))

    def test_edges(self):
        self.assertEqual(factors(ONE_LETTER), (ONE_LETTER,))
        self.assertEqual(factors(NO_PAIRS), (NO_PAIRS,))
        self.assertEqual(factors(ALL_FREE), tuple(("alphabet", letter, ()) for letter in "abcdef"))
        self.assertEqual(factors(STAR), (STAR,))

    def test_what_they_must_be(self):
        for alphabet in itertools.chain(alphabets("abcd"), SEVERAL, FIVE, [CROSSED]):
            found = factors(alphabet)
            self.assertEqual(found, tuple(sorted(found)))
            self.assertEqual("".join(sorted("".join(factor[1] for factor in found))), alphabet[1])
            for factor in found:
                check(factor)
                self.assertEqual(factor[2], tuple(pair for pair in alphabet[2] if set(pair) <= set(factor[1])))
                self.assertFalse(self.falls_apart(alphabet, factor[1]), (alphabet, factor))
            for one, other in itertools.combinations(found, 2):
                self.assertTrue(all(are_free(alphabet, x, y) for x in one[1] for y in other[1]))

    def falls_apart(self, alphabet, letters):
        """Whether letters fall into two lots, neither empty, each letter of one independent of each of the other."""
        return any(all(are_free(alphabet, x, y) for x in lot for y in letters if y not in lot)
                   for many in range(1, len(letters)) for lot in itertools.combinations(letters, many))


class Multiplied(unittest.TestCase):
    def test_by_hand(self):
        self.assertEqual(multiplied((1, -1), (1, -1)), (1, -2, 1))
        self.assertEqual(multiplied((1, -3, 1), (1, -2)), (1, -5, 7, -2))
        self.assertEqual(multiplied((2,), (3,)), (6,))
        self.assertEqual(multiplied((0, 0, 5), (1, 2)), (0, 0, 5, 10))

    def test_with_one(self):
        for alphabet in SEVERAL:
            self.assertEqual(multiplied(polynomial(alphabet), (1,)), polynomial(alphabet))
            self.assertEqual(multiplied((1,), polynomial(alphabet)), polynomial(alphabet))

    def test_by_values_at_some_numbers(self):
        rows = [polynomial(alphabet) for alphabet in SEVERAL]
        for one, other in itertools.product(rows, rows):
            found = multiplied(one, other)
            self.assertEqual(len(found), len(one) + len(other) - 1)
            for x in range(-6, 7):
                values = [sum(item * x ** k for k, item in enumerate(row)) for row in (one, other, found)]
                self.assertEqual(values[0] * values[1], values[2])

    def test_the_factors_of_an_alphabet(self):
        for alphabet in itertools.chain(alphabets("abcd"), SEVERAL, FIVE, [CROSSED]):
            found = (1,)
            for factor in factors(alphabet):
                found = multiplied(found, polynomial(factor))
            self.assertEqual(found, polynomial(alphabet), alphabet)


class CountModulo(unittest.TestCase):
    def plain(self, alphabet, most):
        """The numbers of traces of 0 to so many letters, by the sum over all cliques."""
        counts = [1]
        for n in range(1, most + 1):
            counts.append(sum((-1) ** (len(clique) + 1) * counts[n - len(clique)]
                              for clique in cliques(alphabet) if 0 < len(clique) <= n))
        return counts

    def test_against_count_traces(self):
        for alphabet in itertools.chain(alphabets("abc"), SEVERAL):
            for n in range(15):
                for m in (1, 2, 3, 10, 64, 97, 10 ** 9):
                    self.assertEqual(count_modulo(alphabet, n, m), count_traces(alphabet, n) % m, (alphabet, n, m))

    def test_against_the_plain_sum(self):
        for alphabet in SEVERAL + tuple(FIVE):
            counts = self.plain(alphabet, 400)
            for n in list(range(15, 40)) + [100, 255, 256, 257, 399, 400]:
                for m in (2, 7, 10 ** 9, 10 ** 9 - 1):
                    self.assertEqual(count_modulo(alphabet, n, m), counts[n] % m, (alphabet, n, m))

    def test_edges(self):
        for alphabet in SEVERAL:
            self.assertEqual(count_modulo(alphabet, 0, 1), 0)
            self.assertEqual(count_modulo(alphabet, 0, 2), 1)
            self.assertEqual(count_modulo(alphabet, 10 ** 18, 1), 0)
            self.assertEqual(count_modulo(alphabet, 1, 10 ** 9), len(alphabet[1]))
            self.assertEqual(count_modulo(alphabet, -1, 7), 0)

    def test_very_many_letters(self):
        n, m = 10 ** 18, 10 ** 9
        self.assertEqual(quick(self, count_modulo, ONE_LETTER, n, m), 1)
        self.assertEqual(quick(self, count_modulo, NO_PAIRS, n, m - 1), pow(6, n, m - 1))
        self.assertEqual(quick(self, count_modulo, ALL_FREE, n, m), math.comb(n + 5, 5) % m)
        self.assertEqual(quick(self, count_modulo, ALL_FREE, n - 1, 9973), math.comb(n + 4, 5) % 9973)
        self.assertEqual(quick(self, count_modulo, GAPS, n, m), self.by_matrix(n, m))
        for alphabet in SEVERAL:
            row = polynomial(alphabet)
            some = [quick(self, count_modulo, alphabet, n - k, m) for k in range(len(row))]
            self.assertEqual(sum(item * count for item, count in zip(row, some)) % m, 0)

    def by_matrix(self, n, m):
        """The number for GAPS, where t(n) is 3 t(n - 1) - t(n - 2), by powers of a matrix."""
        power, square = (1, 0, 0, 1), (3, -1, 1, 0)
        while n:
            if n % 2:
                power = self.times(power, square, m)
            square = self.times(square, square, m)
            n //= 2
        # The column is t(0) = 1 above t(-1) = 0.
        return power[0]

    def times(self, one, other, m):
        a, b, c, d = one
        e, f, g, h = other
        return ((a * e + b * g) % m, (a * f + b * h) % m, (c * e + d * g) % m, (c * f + d * h) % m)


class CountBetween(unittest.TestCase):
    def plain(self, alphabet, word, n):
        return sum(told(alphabet, word) in all_prefixes(alphabet, trace) for trace in least_words(alphabet, n))

    def test_by_hand(self):
        self.assertEqual(count_between(EXAMPLE, "ca", 2), 1)
        self.assertEqual(count_between(EXAMPLE, "c", 3), 14)
        self.assertEqual(count_between(NO_PAIRS, "fbd", 5), 36)
        self.assertEqual(count_between(ALL_FREE, "fbd", 5), 21)

    def test_edges(self):
        for alphabet in SEVERAL:
            letter = alphabet[1][-1]
            for n in range(15):
                self.assertEqual(count_between(alphabet, "", n), count_traces(alphabet, n))
                self.assertEqual(count_between(alphabet, letter * n, n), 1)
                self.assertEqual(count_between(alphabet, letter * 14, n), int(n == 14))
            self.assertEqual(count_between(alphabet, letter * 3, 2), 0)

    def test_against_all_traces(self):
        for alphabet in alphabets("abc"):
            for word in words_up_to("abc", 2):
                for n in range(5):
                    self.assertEqual(count_between(alphabet, word, n), self.plain(alphabet, word, n))
        for alphabet in (EXAMPLE, GAPS, MIXED, ROW):
            for word in some_words(alphabet, 2, 4):
                self.assertEqual(count_between(alphabet, word, 3), self.plain(alphabet, word, 3))

    def test_fourteen_letters_take_no_noticeable_time(self):
        for alphabet in SEVERAL:
            for word in some_words(alphabet, 5, 5):
                self.assertEqual(quick(self, count_between, alphabet, word, 14), count_traces(alphabet, 9))


if __name__ == "__main__":
    unittest.main()
