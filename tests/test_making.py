"""traceclasses/making.py: [k1], [k2], [k3], closed automata that are made."""

import itertools
import unittest

from by_search import (
    ALL_FREE, EXAMPLE, GAPS, LOTS, MIXED, NO_PAIRS, ONE_LETTER, ROW, SEVERAL, STAR,
    alphabets, are_free, quick, reached, some_words, told, words, words_up_to,
)
from by_walking import (
    chain, closed_automata, counter, everything, many_states, some_automata, walked,
)
from traceclasses.automata import minimal, takes
from traceclasses.closed import count_taken, first_taken, is_closed
from traceclasses.counting import count_traces
from traceclasses.making import behind, both, either, of_words, product, without

AB = ("alphabet", "ab", ("ab",))
NOTHING = ("automaton", 1, 0, (), ())
EMPTY_WORD = ("automaton", 1, 0, (0,), ())
# One end is not reached, one state neither, most edges are missing.
TORN = ("automaton", 4, 1, (0, 3), ((0, "a", 0), (1, "a", 3), (2, "b", 0)))


class Made(unittest.TestCase):
    """What all automata must be that are made, and the words that they should take."""

    def check(self, alphabet, found, should, most=5):
        self.assertEqual(found, minimal(alphabet, found))
        self.assertIsNone(is_closed(alphabet, found))
        for word in words_up_to(alphabet[1], most):
            self.assertIs(walked(found, word), bool(should(word)), (alphabet, found, word))


class Both(Made):
    def compare(self, alphabet, one, other, most=4):
        self.check(alphabet, both(alphabet, one, other), lambda word: walked(one, word) and walked(other, word), most)
        self.check(alphabet, either(alphabet, one, other), lambda word: walked(one, word) or walked(other, word), most)
        self.check(alphabet, without(alphabet, one, other),
                   lambda word: walked(one, word) and not walked(other, word), most)

    def test_by_hand(self):
        evens = counter("ab", "a", 2, (0,))
        threes = counter("ab", "ab", 3, (0,))
        self.assertEqual(both(AB, evens, threes)[1], 6)
        self.assertEqual(first_taken(AB, both(AB, counter("ab", "a", 2, (1,)), threes)), "aaa")
        self.assertEqual(first_taken(AB, without(AB, evens, threes)), "b")
        self.assertEqual(both(AB, chain("ab", "a"), either(AB, chain("ab", "b"), chain("ab", "a"))), (
            "automaton", 3, 0, (1,),
            ((0, "a", 1), (0, "b", 2), (1, "a", 2), (1, "b", 2), (2, "a", 2), (2, "b", 2)),
        ))

    def test_edges(self):
        for alphabet in SEVERAL:
            letters = alphabet[1]
            none = ("automaton", 1, 0, (), tuple((0, letter, 0) for letter in letters))
            whole = everything(letters)
            some = chain(letters, letters[0] * 2)
            for one, other, rows in (
                (NOTHING, NOTHING, (none, none, none)),
                (NOTHING, whole, (none, whole, none)),
                (whole, NOTHING, (none, whole, whole)),
                (whole, whole, (whole, whole, none)),
                (some, NOTHING, (none, minimal(alphabet, some), minimal(alphabet, some))),
                (NOTHING, some, (none, minimal(alphabet, some), none)),
                (some, whole, (minimal(alphabet, some), whole, none)),
                (some, some, (minimal(alphabet, some), minimal(alphabet, some), none)),
                (EMPTY_WORD, some, (none, of_words(alphabet, ("", some and letters[0] * 2)),
                                    minimal(alphabet, EMPTY_WORD))),
            ):
                found = (both(alphabet, one, other), either(alphabet, one, other), without(alphabet, one, other))
                self.assertEqual(found, rows, (alphabet, one, other))

    def test_missing_edges_of_one_do_not_stop_the_other(self):
        long = minimal(AB, counter("ab", "a", 3, (1,)))
        self.compare(AB, TORN, long, 6)
        self.compare(AB, long, TORN, 6)
        self.compare(AB, TORN, EMPTY_WORD, 6)

    def test_against_all_words(self):
        for alphabet in list(alphabets("ab")) + list(alphabets("abc")):
            automata = closed_automata(alphabet, 6) + [TORN, NOTHING]
            for one, other in itertools.product(automata, automata):
                self.compare(alphabet, one, other)
        for alphabet in (EXAMPLE, GAPS):
            for one, other in itertools.combinations(closed_automata(alphabet, 5), 2):
                self.compare(alphabet, one, other, 3)

    def test_one_letter_and_no_pairs(self):
        for alphabet in (ONE_LETTER, ("alphabet", "ac", ())):
            automata = some_automata(alphabet[1], 6, 8)
            for one, other in itertools.product(automata, automata):
                self.compare(alphabet, one, other)


class Product(Made):
    def halves(self, alphabet, most):
        """By words of at most so many letters all ways to give the letters to two words, as [k2] tells."""
        found = {}
        for word in words_up_to(alphabet[1], most):
            rows = [ways for ways in itertools.product((0, 1), repeat=len(word)) if self.may_part(alphabet, word, ways)]
            found[word] = [tuple("".join(letter for letter, way in zip(word, ways) if way == half) for half in (0, 1))
                           for ways in rows]
        return found

    def may_part(self, alphabet, word, ways):
        return all(are_free(alphabet, word[j], word[k]) for k in range(len(word)) for j in range(k)
                   if ways[j] == 1 and ways[k] == 0)

    def compare_all(self, alphabet, automata, most):
        """The products of each two of these."""
        halves = self.halves(alphabet, most)
        taken = [{word for word in halves if walked(automaton, word)} for automaton in automata]
        for (one, firsts), (other, seconds) in itertools.product(list(zip(automata, taken)), repeat=2):
            self.check(alphabet, product(alphabet, one, other),
                       lambda word: any(u in firsts and v in seconds for u, v in halves[word]), most)

    def by_alike_words(self, alphabet, one, other, word):
        """By all alike words and all places to cut them, as [k1] tells."""
        return any(walked(one, alike[:k]) and walked(other, alike[k:])
                   for alike in reached(alphabet, word) for k in range(len(word) + 1))

    def test_by_hand(self):
        self.assertEqual(product(AB, chain("ab", "b"), chain("ab", "a")), of_words(AB, ("ab",)))
        self.assertEqual(product(EXAMPLE, chain("abcd", "ab"), chain("abcd", "cd")), of_words(EXAMPLE, ("abcd",)))
        some = product(NO_PAIRS, counter("abcdef", "a", 2, (0,)), chain("abcdef", "a"))
        self.assertIs(takes(some, "aaa"), True)
        self.assertIs(takes(some, "aa"), False)
        self.assertIs(takes(some, "aab"), False)
        # With c given to the second word a can pass it, and b cannot.
        found = product(("alphabet", "abc", ("ac",)), counter("abc", "c", 2, (0,)), chain("abc", "c"))
        self.assertIs(takes(found, "cab"), False)
        self.assertIs(takes(found, "bca"), True)

    def test_edges(self):
        for alphabet in (ONE_LETTER, AB, ("alphabet", "ab", ()), GAPS, ("alphabet", "abc", ("ab", "ac", "bc"))):
            letters = alphabet[1]
            none = ("automaton", 1, 0, (), tuple((0, letter, 0) for letter in letters))
            whole = everything(letters)
            for automaton in closed_automata(alphabet, 5) + [NOTHING, EMPTY_WORD, whole]:
                self.assertEqual(product(alphabet, automaton, EMPTY_WORD), minimal(alphabet, automaton))
                self.assertEqual(product(alphabet, EMPTY_WORD, automaton), minimal(alphabet, automaton))
                self.assertEqual(product(alphabet, automaton, NOTHING), none)
                self.assertEqual(product(alphabet, NOTHING, automaton), none)
            self.assertEqual(product(alphabet, whole, whole), whole)

    def test_a_letter_bars_itself(self):
        letters = "a"
        found = product(("alphabet", "a", ()), chain(letters, "a"), chain(letters, "aa"))
        self.assertEqual(found, of_words(("alphabet", "a", ()), ("aaa",)))

    def test_words_of_both_that_are_alike_others_only_together(self):
        for alphabet in alphabets("abc"):
            for u, v in itertools.product(words("abc", 2), repeat=2):
                self.assertEqual(product(alphabet, of_words(alphabet, (u,)), of_words(alphabet, (v,))),
                                 of_words(alphabet, (u + v,)), (alphabet, u, v))

    def test_two_letters_against_all_ways(self):
        for alphabet in alphabets("ab"):
            automata = [one for one in some_automata("ab", 4, 400) if is_closed(alphabet, one) is None][::8]
            automata += [TORN, NOTHING, counter("ab", "a", 4, (1, 2)), counter("ab", "ab", 3, (2,))]
            self.compare_all(alphabet, automata, 5)

    def test_three_letters_against_all_ways(self):
        for alphabet in alphabets("abc"):
            automata = [one for one in some_automata("abc", 2, 300) if is_closed(alphabet, one) is None][::14]
            self.compare_all(alphabet, automata, 4)
            self.compare_all(alphabet, automata[1:3], 5)

    def test_three_letters_against_alike_words(self):
        for alphabet in alphabets("abc"):
            automata = [counter("abc", "ab", 2, (1,)), counter("abc", "b", 2, (1,))] + closed_automata(alphabet, 1)
            for one, other in itertools.product(automata, automata):
                self.check(alphabet, product(alphabet, one, other),
                           lambda word: self.by_alike_words(alphabet, one, other, word), 4)


class OfWords(Made):
    def test_by_hand(self):
        found = of_words(AB, ("ab",))
        self.assertEqual(found, (
            "automaton", 5, 0, (4,),
            ((0, "a", 1), (0, "b", 2), (1, "a", 3), (1, "b", 4), (2, "a", 4), (2, "b", 3),
             (3, "a", 3), (3, "b", 3), (4, "a", 3), (4, "b", 3)),
        ))

    def test_edges(self):
        for alphabet in SEVERAL:
            letters = alphabet[1]
            self.assertEqual(of_words(alphabet, ()), minimal(alphabet, NOTHING))
            self.assertEqual(of_words(alphabet, ("",)), minimal(alphabet, EMPTY_WORD))
            self.assertEqual(of_words(alphabet, (letters[0] * 5,)), minimal(alphabet, chain(letters, letters[0] * 5)))

    def test_words_that_are_alike_or_told_twice(self):
        self.assertEqual(of_words(EXAMPLE, ("acbd", "cadb", "cabd")), of_words(EXAMPLE, ("acdb",)))
        self.assertEqual(of_words(EXAMPLE, ("", "ab", "", "ab")), of_words(EXAMPLE, ("ab", "")))

    def test_a_word_that_is_a_prefix_of_another(self):
        self.check(EXAMPLE, of_words(EXAMPLE, ("c", "ac", "cab")),
                   lambda word: word in ("c", "ac", "ca", "acb", "cab"), 4)

    def test_against_all_alike_words(self):
        for alphabet in list(alphabets("ab")) + list(alphabets("abc")) + [EXAMPLE, GAPS]:
            pool = some_words(alphabet, 5, 3) + some_words(alphabet, 4, 3) + some_words(alphabet, 2, 2) + [""]
            for k in range(len(pool)):
                alike = {word for start in pool[k:] for word in reached(alphabet, start)}
                self.check(alphabet, of_words(alphabet, tuple(pool[k:])), lambda word: word in alike, 4)
                for word in alike:
                    self.assertTrue(walked(of_words(alphabet, tuple(pool[k:])), word))

    def test_numbers_of_traces(self):
        for alphabet in (ALL_FREE, MIXED, ROW, STAR, LOTS, NO_PAIRS):
            pool = tuple(some_words(alphabet, 5, 40) + some_words(alphabet, 3, 10))
            found = of_words(alphabet, pool)
            self.assertEqual(found, minimal(alphabet, found))
            self.assertIsNone(is_closed(alphabet, found))
            for n in range(7):
                told_words = {told(alphabet, word) for word in pool if len(word) == n}
                self.assertEqual(count_taken(alphabet, found, n), len(told_words), (alphabet, n))

    def test_all_words_of_a_length(self):
        for alphabet in alphabets("abc"):
            found = of_words(alphabet, tuple(words("abc", 4)))
            self.assertEqual((found[1], found[3]), (6, (4,)))


class Behind(Made):
    def test_by_hand(self):
        self.assertEqual(behind(EXAMPLE, of_words(EXAMPLE, ("acbd", "cb")), "c"), of_words(EXAMPLE, ("abd", "b")))
        self.assertEqual(behind(AB, counter("ab", "a", 3, (2,)), "aba"), counter("ab", "a", 3, (0,)))

    def test_edges(self):
        for alphabet in SEVERAL:
            letter = alphabet[1][0]
            none = minimal(alphabet, NOTHING)
            for automaton in closed_automata(alphabet, 4) + [TORN]:
                self.assertEqual(behind(alphabet, automaton, ""), minimal(alphabet, automaton))
            self.assertEqual(behind(alphabet, NOTHING, letter), none)
            self.assertEqual(behind(alphabet, EMPTY_WORD, letter), none)
            self.assertEqual(behind(alphabet, chain(alphabet[1], letter * 3), letter * 3), minimal(alphabet, EMPTY_WORD))
            self.assertEqual(behind(alphabet, chain(alphabet[1], letter * 3), letter * 4), none)
            self.assertEqual(behind(alphabet, everything(alphabet[1]), letter * 14), everything(alphabet[1]))

    def test_against_all_words(self):
        for alphabet in list(alphabets("ab")) + list(alphabets("abc")) + [EXAMPLE]:
            for automaton in closed_automata(alphabet, 5) + [TORN]:
                for word in words_up_to(alphabet[1], 2) + some_words(alphabet, 5, 3):
                    self.check(alphabet, behind(alphabet, automaton, word),
                               lambda ending: walked(automaton, word + ending), 3)


class MadeFromOthers(unittest.TestCase):
    def test_automata_of_six_states_take_no_noticeable_time(self):
        for alphabet in (ALL_FREE, MIXED, ROW, STAR, LOTS, NO_PAIRS):
            automata = closed_automata(alphabet, 3)
            for one, other in itertools.product(automata, automata):
                for reckon in (both, either, without):
                    quick(self, reckon, alphabet, one, other)
                quick(self, behind, alphabet, one, "fbdacefbdacefb")
            quick(self, of_words, alphabet, tuple(some_words(alphabet, 5, 200)))

    def test_products_take_no_noticeable_time(self):
        for alphabet in list(alphabets("ab")) + list(alphabets("abc")):
            most = 4 if len(alphabet[1]) == 2 else 2
            letters = alphabet[1]
            rows = [counter(letters, lot, most, ends) for lot in (letters, letters[0], letters[1:])
                    for ends in ((0,), (most - 1,))]
            for one, other in itertools.product(rows, rows):
                quick(self, product, alphabet, one, other)

    def test_automata_that_were_made_from_others(self):
        grown = many_states()
        other = counter("abcdef", "abcdef", 6, (2,))
        self.assertEqual(quick(self, both, ALL_FREE, grown, other)[1], 6 ** 5)
        self.assertEqual(first_taken(ALL_FREE, quick(self, both, ALL_FREE, grown, other)), "aaaaabbbbbcccccddddd")
        self.assertEqual(quick(self, either, ALL_FREE, grown, grown), grown)
        self.assertEqual(quick(self, without, ALL_FREE, grown, grown), minimal(ALL_FREE, NOTHING))
        self.assertEqual(quick(self, behind, ALL_FREE, grown, "abcdabcdabcdab")[1], 6 ** 4)

    def test_products_of_what_was_made(self):
        alphabet = ("alphabet", "abc", ("ab", "bc"))
        found = of_words(alphabet, ("abc", "ba"))
        twice = quick(self, product, alphabet, found, found)
        self.assertEqual(twice, of_words(alphabet, ("abcabc", "abcba", "baabc", "baba")))
        whole = everything("abc")
        rest = without(alphabet, whole, quick(self, product, alphabet, twice, whole))
        self.assertEqual(sum(count_taken(alphabet, rest, n) for n in range(5)),
                         sum(count_traces(alphabet, n) for n in range(5))
                         - sum(count_taken(alphabet, twice, n) for n in range(5)))


if __name__ == "__main__":
    unittest.main()
