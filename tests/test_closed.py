"""traceclasses/closed.py: [a1], closed automata and what they take."""

import itertools
import math
import unittest

from by_search import (
    ALL_FREE, EXAMPLE, GAPS, LOTS, MIXED, NO_PAIRS, ONE_LETTER, ROW, SEVERAL, STAR,
    alphabets, least_words, neighbours, quick, told, words,
)
from by_walking import (
    chain, closed_automata, counter, crossed, everything, in_order, many_states, some_automata, walked,
)
from traceclasses.automata import minimal
from traceclasses.closed import count_taken, first_taken, is_closed
from traceclasses.counting import count_traces

AB = ("alphabet", "ab", ("ab",))
NOTHING = ("automaton", 1, 0, (), ())
EMPTY_WORD = ("automaton", 1, 0, (0,), ())


def plain_fault(alphabet, automaton, most):
    """The first word and its first neighbour, by going through all words of at most so many letters."""
    for word in in_order(alphabet[1], most):
        if walked(automaton, word):
            for _, other in neighbours(alphabet, word):
                if not walked(automaton, other):
                    return (word, other)
    return None


class IsClosed(unittest.TestCase):
    def compare(self, alphabet, automaton, most):
        found = is_closed(alphabet, automaton)
        plain = plain_fault(alphabet, automaton, most)
        if plain is None and found is not None:
            word, other = found
            self.assertGreater(len(word), most, (alphabet, automaton))
            self.assertTrue(walked(automaton, word))
            self.assertFalse(walked(automaton, other))
            self.assertIn(other, [beside for _, beside in neighbours(alphabet, word)])
        else:
            self.assertEqual(found, plain, (alphabet, automaton))

    def test_by_hand(self):
        self.assertEqual(is_closed(EXAMPLE, chain("abcd", "ac")), ("ac", "ca"))
        self.assertEqual(is_closed(EXAMPLE, chain("abcd", "ca")), ("ca", "ac"))
        self.assertIsNone(is_closed(EXAMPLE, chain("abcd", "ab")))
        self.assertIsNone(is_closed(EXAMPLE, counter("abcd", "ac", 3, (1,))))

    def test_the_shortest_word_then_the_least(self):
        # Takes ab, ba, abb and bab, but not bba.
        automaton = ("automaton", 5, 0, (2, 4), ((0, "a", 3), (0, "b", 1), (1, "a", 2), (2, "b", 4), (3, "b", 2)))
        self.assertEqual(is_closed(AB, automaton), ("bab", "bba"))
        # Takes ca, db and aac; the last one is the least, but the longest, too.
        automaton = ("automaton", 6, 0, (5,), (
            (0, "a", 3), (0, "c", 1), (0, "d", 2), (1, "a", 5), (2, "b", 5), (3, "a", 4), (4, "c", 5)))
        self.assertEqual(is_closed(EXAMPLE, automaton), ("ca", "ac"))

    def test_the_least_place(self):
        # In cabd both ca and bd can change places; neither neighbour is taken.
        self.assertEqual(is_closed(EXAMPLE, chain("abcd", "cabd")), ("cabd", "acbd"))
        both = ("automaton", 6, 0, (4,), ((0, "c", 1), (0, "a", 5), (1, "a", 2), (2, "b", 3), (3, "d", 4), (5, "c", 2)))
        self.assertEqual(is_closed(EXAMPLE, both), ("acbd", "acdb"))

    def test_edges(self):
        for alphabet in SEVERAL:
            letters = alphabet[1]
            self.assertIsNone(is_closed(alphabet, NOTHING))
            self.assertIsNone(is_closed(alphabet, EMPTY_WORD))
            self.assertIsNone(is_closed(alphabet, everything(letters)))
            self.assertIsNone(is_closed(alphabet, chain(letters, letters[0] * 5)))
            self.assertIsNone(is_closed(alphabet, ("automaton", 4, 0, (3,), ((0, letters[0], 1), (2, letters[0], 3)))))

    def test_no_pairs_or_one_letter(self):
        for automaton in some_automata("abcdef", 6, 30):
            self.assertIsNone(is_closed(NO_PAIRS, automaton))
        for automaton in some_automata("c", 6, 30):
            self.assertIsNone(is_closed(ONE_LETTER, automaton))

    def test_what_is_not_reached_does_not_matter(self):
        automaton = ("automaton", 4, 0, (0, 3), ((1, "a", 2), (2, "b", 3)))
        self.assertIsNone(is_closed(AB, automaton))
        # Behind the exchange both ways go on to states that are alike, though they are two.
        twins = ("automaton", 6, 0, (4, 5), ((0, "a", 1), (0, "b", 2), (1, "b", 4), (2, "a", 5)))
        self.assertIsNone(is_closed(AB, twins))

    def test_closed_automata(self):
        for alphabet in SEVERAL:
            for automaton in closed_automata(alphabet, 20):
                self.assertIsNone(is_closed(alphabet, automaton), (alphabet, automaton))
                self.assertIsNone(is_closed(alphabet, minimal(alphabet, automaton)))

    def test_against_all_words_in_order(self):
        for letters, most, many, length in (("ab", 6, 150, 9), ("abc", 4, 30, 5)):
            for automaton in some_automata(letters, most, many):
                for alphabet in alphabets(letters):
                    self.compare(alphabet, automaton, length)
        for alphabet in (EXAMPLE, GAPS):
            for automaton in some_automata(alphabet[1], 4, 40):
                self.compare(alphabet, automaton, 4)

    def test_words_that_an_exchange_lets_go_late(self):
        # Where a has come first, or b, is told only by words that end in this many letters more.
        for ending in range(4):
            edges = [(0, "a", 1), (0, "b", 2), (1, "b", 3), (2, "a", 4)] + [(3, "c", 5)]
            edges += [(5 + k, "c", 6 + k) for k in range(ending)]
            automaton = ("automaton", 6 + ending, 0, (5 + ending,), tuple(sorted(edges)))
            for alphabet in alphabets("abc"):
                self.compare(alphabet, automaton, 6)
        # Behind two a's, and an exchange, three b's part what is taken.
        lane = ("automaton", 6, 0, (5,), (
            (0, "a", 1), (1, "a", 2), (2, "a", 3), (2, "b", 3), (3, "b", 4), (4, "b", 5), (5, "a", 5)))
        self.compare(AB, lane, 8)

    def test_where_one_exchange_is_refused_only_once(self):
        # Of all words with two a's and three b's all are taken but one.
        for missing in ("aabbb", "ababb", "abbab", "babab", "bbbaa"):
            automaton = self.all_but(missing)
            found = is_closed(AB, automaton)
            self.assertEqual(found, plain_fault(AB, automaton, 5))
            self.assertEqual(found[1], missing)

    def all_but(self, missing):
        """Takes the words of the same letters as a word, but not the word itself."""
        beginnings = sorted({word[:k] for word in words("ab", len(missing)) if sorted(word) == sorted(missing)
                             and word != missing for k in range(len(missing) + 1)})
        edges = tuple(sorted((beginnings.index(word[:-1]), word[-1], at) for at, word in enumerate(beginnings) if word))
        ends = tuple(at for at, word in enumerate(beginnings) if len(word) == len(missing))
        return ("automaton", len(beginnings), 0, ends, edges)


class CountTaken(unittest.TestCase):
    def plain(self, alphabet, automaton, n):
        return sum(walked(automaton, word) for word in least_words(alphabet, n))

    def test_by_hand(self):
        # Of a, c as many as they like, one b: counted by the a's and c's ahead of the b and behind it.
        automaton = counter("abcd", "bd", 6, (1,))
        self.assertEqual(count_taken(EXAMPLE, automaton, 1), 2)
        self.assertEqual(count_taken(EXAMPLE, automaton, 2), 8)
        self.assertEqual(count_taken(EXAMPLE, chain("abcd", "ab"), 2), 1)
        self.assertEqual(count_taken(EXAMPLE, chain("abcd", "ab"), 3), 0)

    def test_edges(self):
        for alphabet in SEVERAL:
            letters = alphabet[1]
            for n in range(15):
                self.assertEqual(count_taken(alphabet, NOTHING, n), 0)
                self.assertEqual(count_taken(alphabet, EMPTY_WORD, n), int(n == 0))
                self.assertEqual(count_taken(alphabet, everything(letters), n), count_traces(alphabet, n))
                self.assertEqual(count_taken(alphabet, chain(letters, letters[0] * 5), n), int(n == 5))
                self.assertEqual(count_taken(alphabet, ("automaton", 3, 0, (1, 2), ((1, letters[0], 2),)), n), 0)
            self.assertEqual(count_taken(alphabet, everything(letters), -1), 0)

    def test_fourteen_letters(self):
        self.assertEqual(count_taken(ALL_FREE, counter("abcdef", "a", 6, (2,)), 14),
                         sum(math.comb(14 - k + 4, 4) for k in (2, 8, 14)))
        self.assertEqual(count_taken(NO_PAIRS, counter("abcdef", "a", 6, (2,)), 14),
                         sum(math.comb(14, k) * 5 ** (14 - k) for k in (2, 8, 14)))
        for alphabet in SEVERAL:
            letters = alphabet[1]
            for n in range(15):
                parts = [count_taken(alphabet, counter(letters, letters[::2], 4, (k,)), n) for k in range(4)]
                self.assertEqual(sum(parts), count_traces(alphabet, n), (alphabet, n))

    def test_against_all_traces(self):
        for alphabet in alphabets("abc"):
            for automaton in closed_automata(alphabet, 8):
                for n in range(6):
                    self.assertEqual(count_taken(alphabet, automaton, n), self.plain(alphabet, automaton, n))
        for alphabet in SEVERAL:
            for automaton in closed_automata(alphabet, 6):
                for n in range(4):
                    self.assertEqual(count_taken(alphabet, automaton, n), self.plain(alphabet, automaton, n))

    def test_each_class_once_although_greater_words_are_taken_too(self):
        for alphabet in (EXAMPLE, MIXED, ROW, STAR, LOTS):
            automaton = counter(alphabet[1], alphabet[1][1], 3, (0, 1))
            for n in range(4):
                taken = {told(alphabet, word) for word in words(alphabet[1], n) if walked(automaton, word)}
                self.assertEqual(count_taken(alphabet, automaton, n), len(taken))


class FirstTaken(unittest.TestCase):
    def test_by_hand(self):
        self.assertEqual(first_taken(EXAMPLE, counter("abcd", "bd", 3, (2,))), "bb")
        self.assertEqual(first_taken(EXAMPLE, counter("abcd", "bd", 3, (0, 2))), "")
        both = crossed("abcd", counter("abcd", "c", 2, (1,)), counter("abcd", "a", 2, (1,)), min)
        self.assertEqual(first_taken(EXAMPLE, both), "ac")
        self.assertEqual(first_taken(EXAMPLE, chain("abcd", "dcba")), "dcba")

    def test_edges(self):
        for alphabet in SEVERAL:
            letters = alphabet[1]
            self.assertIsNone(first_taken(alphabet, NOTHING))
            self.assertIsNone(first_taken(alphabet, ("automaton", 3, 0, (1, 2), ((1, letters[0], 2),))))
            self.assertEqual(first_taken(alphabet, EMPTY_WORD), "")
            self.assertEqual(first_taken(alphabet, everything(letters)), "")
            self.assertEqual(first_taken(alphabet, counter(letters, letters[-1], 6, (5,))), letters[-1] * 5)

    def test_a_short_word_goes_ahead_of_a_lesser_one(self):
        automaton = ("automaton", 3, 0, (2,), ((0, "a", 1), (0, "b", 2), (1, "a", 2)))
        self.assertEqual(first_taken(NO_PAIRS, automaton), "b")

    def test_against_all_words(self):
        for alphabet in itertools.chain(alphabets("abc"), (EXAMPLE, GAPS, ONE_LETTER)):
            for automaton in closed_automata(alphabet, 12):
                plain = next((word for word in in_order(alphabet[1], 5) if walked(automaton, word)), None)
                self.assertEqual(first_taken(alphabet, automaton), plain, (alphabet, automaton))


class ManyStates(unittest.TestCase):
    def test_automata_of_six_states(self):
        for alphabet in (ALL_FREE, MIXED, ROW, STAR, NO_PAIRS):
            for automaton in closed_automata(alphabet, 3) + some_automata("abcdef", 6, 6):
                quick(self, is_closed, alphabet, automaton)
                quick(self, count_taken, alphabet, automaton, 14)
                quick(self, first_taken, alphabet, automaton)

    def test_automata_of_many_states(self):
        grown = many_states()
        self.assertEqual(grown[1], 6 ** 4)
        self.assertIsNone(quick(self, is_closed, ALL_FREE, grown))
        self.assertEqual(quick(self, first_taken, ALL_FREE, grown), "aaaaabbbbbcccccddddd")
        self.assertEqual(quick(self, count_taken, ALL_FREE, grown, 14), 0)
        others = tuple(sorted(set(range(grown[1])) - set(grown[3])))
        self.assertEqual(quick(self, count_taken, ALL_FREE, grown[:3] + (others,) + grown[4:], 14), math.comb(19, 5))
        # One edge of many leads elsewhere.
        edges = tuple((state, letter, 0 if (state, letter) == (700, "b") else other)
                      for state, letter, other in grown[4])
        word, other = quick(self, is_closed, ALL_FREE, grown[:4] + (edges,))
        self.assertTrue(walked(grown[:4] + (edges,), word))
        self.assertFalse(walked(grown[:4] + (edges,), other))
        self.assertIn(other, [beside for _, beside in neighbours(ALL_FREE, word)])


if __name__ == "__main__":
    unittest.main()
