"""traceclasses/conjugates.py: [j2], [j3]."""

import itertools
import time
import unittest

from by_search import (
    ALL_FREE, EXAMPLE, LOTS, MIXED, NO_PAIRS, ONE_LETTER, ROW, SEVERAL, STAR,
    alphabets, are_free, least_words, reached, shuffled, some_words,
    told, turned_from, turnings, words_up_to,
)
from traceclasses.conjugates import commute, conjugates, transposed, way
from traceclasses.exchanges import parts
from traceclasses.forms import least
from traceclasses.prefixes import prefixes, rest
from traceclasses.roots import components, power, root

# Words of the same letters that stand far from one another, or are not conjugate.
FAR = (("aabbccddeeff", "ffeeddccbbaa"), ("abcdefabcdef", "ffeeddccbbaa"), ("aaabbbcccdddef", "feabcdabcdabcd"))


def turned_by_prefixes(alphabet, word):
    """As turned_from, but for long words: by the package's prefixes and rests."""
    start = least(alphabet, word)
    far = {start: 0}
    queue = [start]
    for now in queue:
        for prefix in prefixes(alphabet, now):
            other = least(alphabet, rest(alphabet, prefix, now) + prefix)
            if other not in far:
                far[other] = far[now] + 1
                queue.append(other)
    return far


class Commute(unittest.TestCase):
    def check(self, alphabet, word, other):
        answer = commute(alphabet, word, other)
        paper = parts(alphabet, word + other, other + word)
        if paper is not None:
            self.assertEqual(answer, ("parted", paper), (alphabet, word, other))
            return
        self.assertEqual(answer[0], "pieces", (alphabet, word, other))
        rows = answer[1]
        self.assertEqual((len(answer), type(answer), type(rows)), (2, tuple, tuple))
        self.assertEqual(rows, tuple(sorted(rows)))
        for piece, one, two in rows:
            self.assertEqual(components(alphabet, piece), (piece,))
            self.assertEqual(root(alphabet, piece), (piece, 1))
            self.assertTrue(one >= 0 and two >= 0 and one + two > 0)
        for (one, *_), (two, *_) in itertools.combinations(rows, 2):
            self.assertTrue(all(are_free(alphabet, x, y) for x in one for y in two), (alphabet, word, other))
        for at, whole in ((1, word), (2, other)):
            product = "".join(row[0] * row[at] for row in rows)
            self.assertIsNone(parts(alphabet, product, whole), (alphabet, word, other))

    def test_the_examples_of_the_document(self):
        self.assertEqual(commute(EXAMPLE, "acac", "a"), ("pieces", (("a", 2, 1), ("c", 2, 0))))
        self.assertEqual(commute(EXAMPLE, "ab", "c"), ("parted", ("order", "b", "c")))

    def test_by_hand(self):
        self.assertEqual(commute(EXAMPLE, "ab", "ab"), ("pieces", (("ab", 1, 1),)))
        self.assertEqual(commute(EXAMPLE, "cabacb", "cab"), ("pieces", (("acb", 2, 1),)))
        self.assertEqual(commute(EXAMPLE, "a", "cc"), ("pieces", (("a", 1, 0), ("c", 0, 2))))
        self.assertEqual(commute(LOTS, "fabfab", "ddd"), ("parted", ("order", "d", "f")))
        self.assertEqual(commute(LOTS, "fabfab", "abf"), ("pieces", (("ab", 2, 1), ("f", 2, 1))))
        self.assertEqual(commute(NO_PAIRS, "ab", "ba"), ("parted", ("order", "a", "b")))
        self.assertEqual(commute(NO_PAIRS, "abab", "ababab"), ("pieces", (("ab", 2, 3),)))

    def test_words_of_one_lot_that_have_no_common_root(self):
        self.assertEqual(commute(EXAMPLE, "ab", "ba"), ("parted", ("order", "a", "b")))
        self.assertEqual(commute(EXAMPLE, "ab", "aab"), ("parted", ("order", "a", "b")))
        self.assertEqual(commute(EXAMPLE, "aac", "b"), ("parted", ("order", "a", "b")))
        self.assertEqual(commute(STAR, "abc", "acba"), ("parted", ("order", "a", "b")))

    def test_edges(self):
        for alphabet in SEVERAL:
            letter = alphabet[1][-1]
            self.assertEqual(commute(alphabet, "", ""), ("pieces", ()))
            self.assertEqual(commute(alphabet, "", letter), ("pieces", ((letter, 0, 1),)))
            self.assertEqual(commute(alphabet, letter * 14, ""), ("pieces", ((letter, 14, 0),)))
            self.assertEqual(commute(alphabet, letter * 14, letter * 3), ("pieces", ((letter, 14, 3),)))
            for word in some_words(alphabet, 14, 3):
                self.check(alphabet, word, word)
                self.check(alphabet, word, "")
        self.assertEqual(commute(ALL_FREE, "fdbf", "acf"),
                         ("pieces", (("a", 0, 1), ("b", 1, 0), ("c", 0, 1), ("d", 1, 0), ("f", 2, 1))))

    def test_short_words(self):
        for alphabet in alphabets("abc"):
            for word, other in itertools.product(words_up_to("abc", 3), repeat=2):
                self.check(alphabet, word, other)
                self.assertEqual(commute(alphabet, word, other)[0] == "pieces",
                                 told(alphabet, word + other) == told(alphabet, other + word))

    def test_products_of_powers(self):
        for alphabet in SEVERAL:
            for word in some_words(alphabet, 4, 6):
                for one, two in itertools.product(range(4), repeat=2):
                    self.check(alphabet, word * one, max(reached(alphabet, word)) * two)
                    rows = [(piece, one * n, two * n) for piece, n in
                            (root(alphabet, component) for component in components(alphabet, word))]
                    answer = commute(alphabet, word * one, word * two)
                    self.assertEqual(answer, ("pieces", tuple(sorted(rows)) if one or two else ()))

    def test_the_exponents_of_each_piece_are_free(self):
        for exponents in itertools.product(range(3), repeat=4):
            i, j, k, m = exponents
            word = power(LOTS, "abc", i) + power(LOTS, "fd", j)
            other = power(LOTS, "abc", k) + power(LOTS, "fd", m)
            rows = [row for row in (("abc", i, k), ("fd", j, m)) if row[1] or row[2]]
            self.assertEqual(commute(LOTS, word, other), ("pieces", tuple(rows)), exponents)


class Transposed(unittest.TestCase):
    def compare(self, alphabet, word, rows, other):
        wanted = [(k, u) for k, u, behind in rows if behind == told(alphabet, other)]
        answer = transposed(alphabet, word, other)
        if not wanted:
            self.assertIsNone(answer, (alphabet, word, other))
            return
        u, v = answer
        self.assertEqual((len(u), u), wanted[0], (alphabet, word, other))
        self.assertEqual(v, told(alphabet, v))
        self.assertEqual(told(alphabet, u + v), told(alphabet, word))
        self.assertEqual(told(alphabet, v + u), told(alphabet, other))

    def test_by_hand(self):
        self.assertEqual(transposed(EXAMPLE, "abc", "bca"), ("a", "bc"))
        self.assertEqual(transposed(EXAMPLE, "abc", "cab"), ("ab", "c"))
        self.assertEqual(transposed(EXAMPLE, "cab", "bac"), ("ac", "b"))
        self.assertEqual(transposed(EXAMPLE, "abab", "baba"), ("a", "bab"))
        self.assertEqual(transposed(LOTS, "fdcba", "dfacb"), ("cbf", "ad"))

    def test_words_that_are_not_transposed(self):
        for word, other in (("a", "b"), ("a", "aa"), ("", "a"), ("a", ""), ("aabb", "abab"), ("abcb", "abbc")):
            self.assertIsNone(transposed(EXAMPLE, word, other))

    def test_conjugate_words_that_are_not_transposed(self):
        self.assertIsNone(transposed(ROW, "abc", "cba"))
        self.assertEqual(len(way(ROW, "abc", "cba")), 3)

    def test_edges(self):
        for alphabet in SEVERAL:
            letter = alphabet[1][0]
            self.assertEqual(transposed(alphabet, "", ""), ("", ""))
            self.assertEqual(transposed(alphabet, letter * 14, letter * 14), ("", letter * 14))
            for word in some_words(alphabet, 14, 3):
                self.assertEqual(transposed(alphabet, word, word), ("", least(alphabet, word)))
        self.assertEqual(transposed(ALL_FREE, "fbdace", "abcdef"), ("", "abcdef"))
        self.assertEqual(transposed(NO_PAIRS, "fbdace", "acefbd"), ("fbd", "ace"))
        self.assertIsNone(transposed(NO_PAIRS, "fbdace", "fbdaec"))

    def test_against_all_products(self):
        for alphabet in alphabets("abc"):
            for n in range(6):
                row = least_words(alphabet, n) if n < 4 else least_words(alphabet, n)[::7]
                for word in row:
                    rows = turnings(alphabet, word)
                    for other in row:
                        self.compare(alphabet, word, rows, other)

    def test_each_trace_that_one_turn_leads_to(self):
        for alphabet in SEVERAL:
            for word in some_words(alphabet, 6, 5):
                rows = turnings(alphabet, word)
                for other in sorted(turned_from(alphabet, word)):
                    self.compare(alphabet, word, rows, max(reached(alphabet, other)))


class Conjugates(unittest.TestCase):
    def test_by_hand(self):
        self.assertEqual(conjugates(EXAMPLE, "abc"), ("abc", "acb", "bac", "cba"))
        self.assertEqual(conjugates(EXAMPLE, "ca"), ("ac",))
        self.assertEqual(conjugates(EXAMPLE, "aab"), ("aab", "aba", "baa"))
        self.assertEqual(conjugates(NO_PAIRS, "abab"), ("abab", "baba"))
        self.assertEqual(conjugates(LOTS, "abde"), ("abde", "abed", "bade", "baed"))

    def test_edges(self):
        for alphabet in SEVERAL:
            letter = alphabet[1][-1]
            self.assertEqual(conjugates(alphabet, ""), ("",))
            self.assertEqual(conjugates(alphabet, letter), (letter,))
            self.assertEqual(conjugates(alphabet, letter * 8), (letter * 8,))
        self.assertEqual(conjugates(ALL_FREE, "fbdacefb"), ("abbcdeff",))
        self.assertEqual(len(conjugates(NO_PAIRS, "fbdacefb")), 8)
        self.assertEqual(len(conjugates(STAR, "aaabcdef")), 2 + 2 ** 5)

    def test_against_all_products_again_and_again(self):
        for alphabet in alphabets("abc"):
            for word in words_up_to("abc", 4):
                self.assertEqual(conjugates(alphabet, word), tuple(sorted(turned_from(alphabet, word))))
        for alphabet in SEVERAL:
            for word in some_words(alphabet, 6, 4):
                self.assertEqual(conjugates(alphabet, word), tuple(sorted(turned_from(alphabet, word))))


class Way(unittest.TestCase):
    def check(self, alphabet, word, other, far):
        answer = way(alphabet, word, other)
        if told(alphabet, other) not in far:
            self.assertIsNone(answer, (alphabet, word, other))
            return
        self.assertIs(type(answer), tuple)
        self.assertEqual(answer[0], told(alphabet, word))
        self.assertEqual(answer[-1], told(alphabet, other))
        self.assertEqual(len(answer) - 1, far[told(alphabet, other)], (alphabet, word, other))
        for one, two in itertools.pairwise(answer):
            self.assertIn(two, [behind for _, _, behind in turnings(alphabet, one)], (alphabet, word, other))

    def test_by_hand(self):
        self.assertEqual(way(EXAMPLE, "abc", "bca"), ("abc", "bac"))
        self.assertEqual(way(EXAMPLE, "cab", "acb"), ("acb",))
        self.assertEqual(len(way(ROW, "abcd", "dcba")), 4)
        self.assertEqual(len(way(ROW, "abcdef", "fedcba")), 6)
        self.assertEqual(len(way(ROW, "fedcba", "abcdef")), 6)

    def test_words_that_are_not_conjugate(self):
        for word, other in (("a", "b"), ("a", "aa"), ("", "a"), ("a", ""), ("aabb", "abab"), ("aaccb", "aabbc")):
            self.assertIsNone(way(EXAMPLE, word, other))
        self.assertIsNone(way(NO_PAIRS, "abcdef", "fedcba"))
        self.assertIsNone(way(NO_PAIRS, "abcdef" * 2, "abcdfe" * 2))
        self.assertIsNone(way(STAR, "aabb" + "ccddeeff", "abab" + "ccddeeff"))

    def test_edges(self):
        for alphabet in SEVERAL:
            letter = alphabet[1][0]
            self.assertEqual(way(alphabet, "", ""), ("",))
            self.assertEqual(way(alphabet, letter * 14, letter * 14), (letter * 14,))
            self.assertIsNone(way(alphabet, letter * 14, letter * 13))
            for word in some_words(alphabet, 14, 3):
                self.assertEqual(way(alphabet, word, word), (least(alphabet, word),))
        self.assertEqual(way(ALL_FREE, "fbdace", "ecadbf"), ("abcdef",))
        self.assertEqual(way(NO_PAIRS, "fbdace", "acefbd"), ("fbdace", "acefbd"))
        self.assertIsNone(way(ONE_LETTER, "c", "cc"))

    def test_against_breadth_first_search(self):
        for alphabet in alphabets("abc"):
            for n in range(6):
                row = least_words(alphabet, n) if n < 4 else least_words(alphabet, n)[::7]
                for word in row:
                    far = turned_from(alphabet, word)
                    for other in row + sorted(far):
                        self.check(alphabet, word, other, far)

    def test_all_alphabets_of_four_letters(self):
        for alphabet in alphabets("abcd"):
            for word in ("abcd", "dabcb", "acbdac"):
                far = turned_from(alphabet, word)
                for other in sorted(far):
                    self.check(alphabet, word, other, far)
                for other in some_words(alphabet, len(word), 20):
                    self.check(alphabet, word, other, far)

    def test_alphabets_of_six_letters(self):
        for alphabet in SEVERAL:
            for word in ("abcdef", "afbecdb"):
                if set(word) <= set(alphabet[1]):
                    far = turned_from(alphabet, word)
                    for other in sorted(far)[::3]:
                        self.check(alphabet, word, max(reached(alphabet, other)), far)

    def test_rings_of_letters(self):
        # Here the letters come back to the first one: a ring of dependent letters.
        ring = ("alphabet", "abcdef", ("ac", "ad", "ae", "bd", "be", "bf", "ce", "cf", "df"))
        for word in ("abcdef", "fbadce", "ebadcfa"):
            far = turned_from(ring, word)
            for other in sorted(far):
                self.check(ring, word, other, far)
            for other in itertools.permutations(word):
                if "".join(other[1:4]) == "ecd":
                    self.check(ring, word, "".join(other), far)

    def test_ways_of_fourteen_letters(self):
        for alphabet, word in (
            (ROW, "abcccccccccdef"), (ROW, "abcdefabcdefab"), (STAR, "aaaaaaaaabcdef"),
            (MIXED, "abcdefabcdefab"), (EXAMPLE, "abcdabcdabcdab"), (EXAMPLE, "aabbccddabcdac"),
        ):
            far = turned_by_prefixes(alphabet, word)
            for other, many in far.items():
                answer = way(alphabet, word, other)
                self.assertEqual((answer[0], answer[-1]), (least(alphabet, word), other))
                self.assertEqual(len(answer) - 1, many, (alphabet, word, other))
                for one, two in itertools.pairwise(answer):
                    u, v = transposed(alphabet, one, two)
                    self.assertIsNone(parts(alphabet, u + v, one))
                    self.assertIsNone(parts(alphabet, v + u, two))
            for other in shuffled(word, 20):
                self.assertEqual(way(alphabet, word, other) is None, least(alphabet, other) not in far)
        self.assertEqual(len(way(ROW, "aabbccddeeff", "ffeeddccbbaa")), 6)


class LongWords(unittest.TestCase):
    def test_words_of_fourteen_letters_take_no_noticeable_time(self):
        for alphabet in (ALL_FREE, MIXED, ROW, STAR, NO_PAIRS):
            for word, other in FAR + (("aaaaaaaaabcdef", "bacadaeafaaaaa"), ("abacadaeafaaaa", "aaaaaaaaafedcb")):
                for reckon in (commute, transposed, way):
                    began = time.perf_counter()
                    reckon(alphabet, word, other)
                    self.assertLess(time.perf_counter() - began, 1, (reckon, alphabet, word))

    def test_the_conjugates_of_eight_letters_take_no_noticeable_time(self):
        for alphabet in (ALL_FREE, MIXED, ROW, STAR, NO_PAIRS):
            for word in ("aaabcdef", "fbdacefb", "aabbccdd"):
                began = time.perf_counter()
                conjugates(alphabet, word)
                self.assertLess(time.perf_counter() - began, 2, (alphabet, word))


if __name__ == "__main__":
    unittest.main()
