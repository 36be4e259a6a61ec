"""traceclasses/alphabets.py: [c1], [c6] (independent words), [e1]."""

import unittest

from by_search import ALL_PAIRS, EXAMPLE
from traceclasses.alphabets import check, free, independent, taken_out
from traceclasses.errors import AlphabetFault, ExchangeFault, TraceFault


class Check(unittest.TestCase):
    def fault(self, letters, pairs):
        with self.assertRaises(AlphabetFault) as caught:
            check(("alphabet", letters, pairs))
        self.assertIsInstance(caught.exception, TraceFault)
        self.assertIsInstance(caught.exception, ValueError)
        self.assertNotIsInstance(caught.exception, ExchangeFault)
        return caught.exception.reason

    def test_right_alphabets(self):
        for letters, pairs in (
            ("abcd", ("ac", "bd")), ("a", ()), ("f", ()), ("abcdef", ()), ("abcdef", ALL_PAIRS),
            ("bdf", ("bf",)), ("ab", ("ab",)), ("abc", ("ab", "ac", "bc")), ("acef", ("af", "ce")),
        ):
            self.assertIsNone(check(("alphabet", letters, pairs)), (letters, pairs))

    def test_wrong_letters(self):
        for letters in (
            "", "ba", "acb", "aa", "aab", "abb", "aba", "g", "abg", "A", "Aa", "_ab", " a", "a ",
            "abcdefg", "a1", "1", "\u00e9", "fedcba", "`a", "a,b",
        ):
            self.assertEqual(self.fault(letters, ()), "letters", letters)

    def test_a_pair_is_two_letters_the_lesser_one_first(self):
        for pair in (
            "ba", "aa", "cc", "ad", "de", "a", "", "abc", "aab", "a,b", "a b", "AB", "af", "Ab", "ab ",
        ):
            self.assertEqual(self.fault("abc", (pair,)), "pairs", pair)
        self.assertEqual(self.fault("ac", ("ab",)), "pairs")
        self.assertEqual(self.fault("ac", ("bc",)), "pairs")
        self.assertEqual(self.fault("a", ("aa",)), "pairs")

    def test_each_pair_is_looked_at(self):
        self.assertEqual(self.fault("abc", ("ab", "ac", "cb")), "pairs")
        self.assertEqual(self.fault("abc", ("aa", "ab", "ac")), "pairs")
        self.assertEqual(self.fault("abc", ("ab", "bb", "bc")), "pairs")

    def test_pairs_rise_and_stand_once(self):
        self.assertEqual(self.fault("abc", ("ac", "ab")), "pairs")
        self.assertEqual(self.fault("abc", ("bc", "ab")), "pairs")
        self.assertEqual(self.fault("abc", ("ab", "ab")), "pairs")
        self.assertEqual(self.fault("abc", ("ab", "bc", "bc")), "pairs")
        self.assertEqual(self.fault("abc", ("ab", "bc", "ac")), "pairs")
        self.assertEqual(self.fault("abcdef", ALL_PAIRS[::-1]), "pairs")

    def test_letters_come_first_where_both_are_wrong(self):
        self.assertEqual(self.fault("ba", ("ba",)), "letters")
        self.assertEqual(self.fault("", ("ab",)), "letters")
        self.assertEqual(self.fault("abg", ("bg", "ab")), "letters")
        self.assertEqual(self.fault("aa", ("aa",)), "letters")


class Independent(unittest.TestCase):
    def test_all_pairs_of_letters(self):
        for letters, pairs in (
            ("abcd", ("ac", "bd")), ("abc", ()), ("abcdef", ALL_PAIRS), ("abcdef", ("ab", "cf", "de")),
        ):
            for x in letters:
                for y in letters:
                    told = independent(("alphabet", letters, pairs), x, y)
                    self.assertIs(told, (x + y) in pairs or (y + x) in pairs, (x, y, pairs))

    def test_a_letter_is_dependent_with_itself(self):
        for x in "abcdef":
            self.assertIs(independent(("alphabet", "abcdef", ALL_PAIRS), x, x), False)


class Free(unittest.TestCase):
    def test_words(self):
        for word, other, told in (
            ("a", "c", True), ("c", "a", True), ("aa", "ccc", True), ("bb", "d", True),
            ("a", "a", False), ("a", "b", False), ("ac", "c", False), ("ac", "ac", False),
            ("ab", "c", False), ("ab", "cd", False), ("a", "cb", False), ("ba", "c", False),
            ("a", "bc", False), ("aab", "c", False),
        ):
            self.assertIs(free(EXAMPLE, word, other), told, (word, other))

    def test_the_empty_word_is_independent_of_all(self):
        for word in ("", "a", "abcd", "aa"):
            self.assertIs(free(EXAMPLE, "", word), True)
            self.assertIs(free(EXAMPLE, word, ""), True)
            self.assertIs(free(("alphabet", "abcd", ()), word, ""), True)

    def test_words_of_several_letters_that_are_all_independent(self):
        square = ("alphabet", "abcd", ("ac", "ad", "bc", "bd"))
        self.assertIs(free(square, "abba", "dcdc"), True)
        self.assertIs(free(square, "dcdc", "abba"), True)
        self.assertIs(free(square, "abba", "dcdca"), False)


class TakenOut(unittest.TestCase):
    def test_the_other_letters_are_taken_out(self):
        self.assertEqual(taken_out("abcabd", "ab"), "abab")
        self.assertEqual(taken_out("abcabd", "ba"), "abab")
        self.assertEqual(taken_out("abcabd", "d"), "d")
        self.assertEqual(taken_out("abcabd", "abcd"), "abcabd")
        self.assertEqual(taken_out("cbac", "ac"), "cac")

    def test_letters_that_do_not_stand_in_the_word(self):
        self.assertEqual(taken_out("abba", "cd"), "")
        self.assertEqual(taken_out("abba", "bd"), "bb")
        self.assertEqual(taken_out("", "ab"), "")

    def test_no_letters(self):
        self.assertEqual(taken_out("abba", ""), "")
        self.assertEqual(taken_out("", ""), "")

    def test_letters_that_are_told_twice(self):
        self.assertEqual(taken_out("abba", "aa"), "aa")


if __name__ == "__main__":
    unittest.main()
