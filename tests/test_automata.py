"""traceclasses/automata.py and building.py: [c7], takes, minimal, equal."""

import itertools
import unittest

from by_search import (
    ALL_FREE, EXAMPLE, MIXED, NO_PAIRS, ONE_LETTER, SEVERAL, alphabets, quick, some_words, words_up_to,
)
from by_walking import (
    chain, closed_automata, counter, crossed, everything, first_difference, in_order, many_states, some_automata,
    walked,
)
from traceclasses.automata import equal, minimal, takes

AB = ("alphabet", "ab", ("ab",))
NOTHING = ("automaton", 1, 0, (), ())
EMPTY_WORD = ("automaton", 1, 0, (0,), ())
# One end is not reached, one state neither, and most edges are missing.
TORN = ("automaton", 5, 2, (1, 4), ((0, "a", 4), (1, "b", 2), (2, "a", 1), (3, "b", 3)))


class Takes(unittest.TestCase):
    def test_by_hand(self):
        self.assertIs(takes(TORN, "a"), True)
        self.assertIs(takes(TORN, "aba"), True)
        self.assertIs(takes(TORN, "ab"), False)
        self.assertIs(takes(TORN, "aa"), False)
        self.assertIs(takes(TORN, "aab"), False)
        self.assertIs(takes(TORN, "b"), False)

    def test_the_empty_word(self):
        self.assertIs(takes(EMPTY_WORD, ""), True)
        self.assertIs(takes(EMPTY_WORD, "a"), False)
        self.assertIs(takes(NOTHING, ""), False)
        self.assertIs(takes(TORN, ""), False)

    def test_a_missing_edge_ends_the_walk(self):
        # Behind the gap the letters could be gone on with from another state.
        self.assertIs(takes(("automaton", 2, 0, (0, 1), ((0, "b", 1), (1, "a", 1))), "ab"), False)
        self.assertIs(takes(chain("abc", "abc"), "abca"), False)

    def test_all_is_taken(self):
        for alphabet in SEVERAL:
            for word in some_words(alphabet, 14, 5) + [""]:
                self.assertIs(takes(everything(alphabet[1]), word), True)

    def test_against_plain_walks(self):
        for automaton in some_automata("ab", 6, 60):
            for word in words_up_to("ab", 6):
                self.assertIs(takes(automaton, word), walked(automaton, word), (automaton, word))


class Minimal(unittest.TestCase):
    def check(self, alphabet, automaton, most):
        letters = alphabet[1]
        found = minimal(alphabet, automaton)
        name, many, start, ends, edges = found
        self.assertEqual((name, start), ("automaton", 0))
        self.assertEqual([(state, letter) for state, letter, _ in edges], list(itertools.product(range(many), letters)))
        self.assertEqual(ends, tuple(sorted(set(ends))))
        self.assertTrue(set(ends) <= set(range(many)))
        table = {(state, letter): other for state, letter, other in edges}
        self.assertEqual(self.breadth_first(letters, table), list(range(many)))
        self.assertEqual(self.alike_pairs(letters, table, many, ends), [], automaton)
        self.assertIsNone(first_difference(letters, automaton, found, most), automaton)
        self.assertEqual(minimal(alphabet, found), found)
        return found

    def breadth_first(self, letters, table):
        queue = [0]
        for state in queue:
            for letter in letters:
                if table[state, letter] not in queue:
                    queue.append(table[state, letter])
        return queue

    def alike_pairs(self, letters, table, many, ends):
        """The pairs of states that no word tells apart: what is left if pairs are struck out again and again."""
        left = [pair for pair in itertools.combinations(range(many), 2) if (pair[0] in ends) == (pair[1] in ends)]
        while True:
            kept = [pair for pair in left if all(
                table[pair[0], x] == table[pair[1], x]
                or (min(table[pair[0], x], table[pair[1], x]), max(table[pair[0], x], table[pair[1], x])) in left
                for x in letters)]
            if kept == left:
                return left
            left = kept

    def test_by_hand(self):
        self.assertEqual(minimal(AB, TORN), (
            "automaton", 3, 0, (1,),
            ((0, "a", 1), (0, "b", 2), (1, "a", 2), (1, "b", 0), (2, "a", 2), (2, "b", 2)),
        ))
        # Both states are alike, so one of them is enough, and no sink is needed.
        self.assertEqual(minimal(AB, ("automaton", 2, 1, (0, 1), ((0, "a", 1), (0, "b", 0), (1, "a", 0), (1, "b", 1)))),
                         ("automaton", 1, 0, (0,), ((0, "a", 0), (0, "b", 0))))
        self.assertEqual(minimal(ONE_LETTER, chain("c", "c")),
                         ("automaton", 3, 0, (1,), ((0, "c", 1), (1, "c", 2), (2, "c", 2))))

    def test_numbers_go_by_the_letters_and_not_by_the_old_numbers(self):
        old = ("automaton", 3, 2, (0,), ((0, "a", 1), (0, "b", 1), (1, "a", 0), (1, "b", 2), (2, "a", 1), (2, "b", 0)))
        self.assertEqual(minimal(AB, old), (
            "automaton", 3, 0, (2,),
            ((0, "a", 1), (0, "b", 2), (1, "a", 2), (1, "b", 0), (2, "a", 1), (2, "b", 1)),
        ))

    def test_edges(self):
        for alphabet in SEVERAL:
            letters = alphabet[1]
            stay = tuple((0, letter, 0) for letter in letters)
            for nothing in (
                NOTHING,
                ("automaton", 6, 3, (), tuple((k, letters[0], (k + 1) % 6) for k in range(6))),
                ("automaton", 3, 0, (1, 2), ((1, letters[0], 2),)),
                ("automaton", 2, 0, (1,), ((0, letters[0], 0), (1, letters[0], 0))),
            ):
                self.assertEqual(minimal(alphabet, nothing), ("automaton", 1, 0, (), stay))
            self.assertEqual(minimal(alphabet, everything(letters)), ("automaton", 1, 0, (0,), stay))
            self.assertEqual(minimal(alphabet, counter(letters, letters, 6, (0, 1, 2, 3, 4, 5))),
                             ("automaton", 1, 0, (0,), stay))
            lost = tuple((0, letter, 1) for letter in letters) + tuple((1, letter, 1) for letter in letters)
            self.assertEqual(minimal(alphabet, EMPTY_WORD), ("automaton", 2, 0, (0,), lost))

    def test_what_it_must_be(self):
        for alphabet, most, length in ((ONE_LETTER, 6, 14), (AB, 6, 8), (("alphabet", "abc", ("ac",)), 5, 5),
                                       (EXAMPLE, 4, 4)):
            for automaton in some_automata(alphabet[1], most, 80):
                self.check(alphabet, automaton, length)

    def test_the_pairs_do_not_matter(self):
        for automaton in some_automata("abc", 6, 20):
            self.assertEqual(len({minimal(alphabet, automaton) for alphabet in alphabets("abc")}), 1)

    def test_states_that_only_long_words_tell_apart(self):
        # From the start two letters lead to the end, and from there six to the end again.
        cycle = ("automaton", 6, 4, (0,), tuple((k, "c", (k + 1) % 6) for k in range(6)))
        found = self.check(ONE_LETTER, cycle, 14)
        self.assertEqual((found[1], found[3]), (6, (2,)))
        found = minimal(AB, crossed("ab", counter("ab", "a", 6, (5,)), counter("ab", "b", 6, (5,)), min))
        self.assertEqual((found[1], found[3]), (36, (35,)))

    def test_automata_that_take_the_same_words_give_the_same_one(self):
        for letters, most in (("c", 6), ("ab", 3)):
            alphabet = ("alphabet", letters, ())
            by_words = {}
            for automaton in some_automata(letters, most, 200):
                taken = tuple(walked(automaton, word) for word in in_order(letters, 7 if most < 6 else 14))
                by_words.setdefault(taken, set()).add(minimal(alphabet, automaton))
            self.assertTrue(all(len(found) == 1 for found in by_words.values()))


class Equal(unittest.TestCase):
    def test_by_hand(self):
        self.assertIsNone(equal(AB, TORN, chain("ab", "a")[:3] + ((1,), ((0, "a", 1), (1, "b", 0)))))
        self.assertEqual(equal(AB, TORN, NOTHING), "a")
        self.assertEqual(equal(AB, NOTHING, TORN), "a")
        self.assertEqual(equal(AB, chain("ab", "ba"), chain("ab", "bb")), "ba")
        self.assertEqual(equal(AB, chain("ab", "b"), chain("ab", "aa")), "b")
        self.assertEqual(equal(EXAMPLE, everything("abcd"), everything("abc")), "d")

    def test_edges(self):
        for alphabet in SEVERAL:
            letter = alphabet[1][-1]
            self.assertIsNone(equal(alphabet, NOTHING, NOTHING))
            self.assertEqual(equal(alphabet, NOTHING, EMPTY_WORD), "")
            self.assertEqual(equal(alphabet, everything(alphabet[1]), NOTHING), "")
            self.assertEqual(equal(alphabet, everything(alphabet[1]), EMPTY_WORD), alphabet[1][0])
            self.assertEqual(equal(alphabet, EMPTY_WORD, chain(alphabet[1], letter)), "")
            self.assertIsNone(equal(alphabet, NOTHING, ("automaton", 3, 0, (1, 2), ((1, letter, 2),))))

    def test_a_difference_that_needs_many_letters(self):
        self.assertEqual(equal(ONE_LETTER, counter("c", "c", 5, (4,)), counter("c", "c", 6, (5, 4))), "ccccc")
        sixes = counter("ab", "b", 6, (5,))
        fives = counter("ab", "b", 5, (4,))
        self.assertEqual(equal(AB, crossed("ab", sixes, fives, min), NOTHING), "b" * 29)
        self.assertEqual(equal(AB, NOTHING, crossed("ab", sixes, counter("ab", "a", 5, (4,)), min)), "aaaabbbbb")

    def test_against_all_words_up_to_the_number_of_pairs(self):
        for letters, most, many in (("c", 6, 14), ("ab", 2, 12)):
            automata = some_automata(letters, most, many)
            for one, two in itertools.product(automata, automata):
                pairs = (one[1] + 1) * (two[1] + 1)
                self.assertEqual(equal(("alphabet", letters, ()), one, two),
                                 first_difference(letters, one, two, pairs), (one, two))

    def test_against_short_words(self):
        automata = some_automata("abc", 4, 14)
        for one, two in itertools.product(automata, automata):
            found = equal(("alphabet", "abc", ("ab",)), one, two)
            plain = first_difference("abc", one, two, 4)
            self.assertTrue(found == plain or plain is None and len(found) > 4, (one, two))
            if found is not None:
                self.assertNotEqual(walked(one, found), walked(two, found))

    def test_what_minimal_has_made(self):
        for alphabet in SEVERAL:
            for automaton in some_automata(alphabet[1], 6, 10) + closed_automata(alphabet, 5):
                self.assertIsNone(equal(alphabet, automaton, minimal(alphabet, automaton)))


class ManyStates(unittest.TestCase):
    def test_automata_of_six_states(self):
        for alphabet in (ALL_FREE, MIXED, NO_PAIRS):
            for automaton in some_automata(alphabet[1], 6, 6):
                quick(self, minimal, alphabet, automaton)
                quick(self, equal, alphabet, automaton, everything(alphabet[1]))
                quick(self, takes, automaton, "fbdacefbdacefb")

    def test_automata_of_many_states(self):
        grown = many_states()
        self.assertEqual(grown[1], 6 ** 4)
        self.assertEqual(quick(self, minimal, ALL_FREE, grown), grown)
        self.assertIsNone(quick(self, equal, ALL_FREE, grown, grown))
        self.assertEqual(quick(self, equal, ALL_FREE, grown, NOTHING), "aaaaabbbbbcccccddddd")
        self.assertIs(quick(self, takes, grown, "abcdabcdabcdabcdabcd"), True)

    def test_many_states_that_only_long_words_tell_apart(self):
        cycle = counter("c", "c", 3000, (0,))
        self.assertEqual(quick(self, minimal, ONE_LETTER, cycle)[1], 3000)
        twice = counter("c", "c", 3000, (0, 1500))
        self.assertEqual(quick(self, minimal, ONE_LETTER, twice)[1], 1500)


if __name__ == "__main__":
    unittest.main()
