"""The arms of a text's middles."""

import copy
import unittest

from mirrorwords.errors import BadText
from mirrorwords.middles import arms
from tests.helper import (
    LETTERS, NO_TEXT_STRINGS, all_texts, arms_by_letters, mirrored, other_kinds, refusal_of, unlike_text)

LONG_TEXTS = [
    "a" * 199,
    "a" * 200,
    "z" * 200,
    "ab" * 100,
    "aab" * 66 + "zz",
    "a" * 100 + "b" * 100,
    "a" * 199 + "b",
    "b" + "a" * 199,
    mirrored(unlike_text(100, 5, 26)),
    mirrored(unlike_text(99, 6, 3), "qq"),
    mirrored(unlike_text(99, 7, 2), "q"),
]
UNLIKE_TEXTS = [
    unlike_text(many, step, kinds)
    for many in (1, 2, 3, 7, 20, 63, 120, 199, 200) for step in (11, 12, 13) for kinds in (1, 2, 3, 4, 26)]


class Arms(unittest.TestCase):
    def assert_arms(self, text):
        told = arms(text)
        self.assertIs(type(told), list)
        self.assertTrue(all(type(arm) is int for arm in told))
        self.assertEqual(len(told), max(0, 2 * len(text) - 1))
        self.assertEqual(told, arms_by_letters(text))

    def test_told_by_hand(self):
        for text, told in [
                ("", []),
                ("a", [0]),
                ("aa", [0, 1, 0]),
                ("ab", [0, 0, 0]),
                ("aba", [0, 0, 1, 0, 0]),
                ("aaa", [0, 1, 1, 1, 0]),
                ("aab", [0, 1, 0, 0, 0]),
                ("abba", [0, 0, 0, 2, 0, 0, 0]),
                ("aabaa", [0, 1, 0, 0, 2, 0, 0, 1, 0]),
                ("xabay", [0, 0, 0, 0, 1, 0, 0, 0, 0])]:
            with self.subTest(text=text):
                self.assertEqual(arms(text), told)

    def test_one_letter(self):
        for letter in LETTERS:
            self.assertEqual(arms(letter), [0])

    def test_all_small_texts(self):
        for text in all_texts("abc", 6) + all_texts("ab", 9):
            with self.subTest(text=text):
                self.assert_arms(text)

    def test_many_unlike_letters(self):
        for text in [LETTERS, LETTERS + LETTERS[::-1], LETTERS[::-1] + LETTERS, LETTERS * 7] + UNLIKE_TEXTS:
            with self.subTest(text=text):
                self.assert_arms(text)

    def test_long_texts(self):
        for text in LONG_TEXTS:
            with self.subTest(text=text):
                self.assertIn(len(text), (199, 200))
                self.assert_arms(text)

    def test_argument_by_name(self):
        self.assertEqual(arms(text="aa"), [0, 1, 0])

    def test_it_is_defined_in_its_file(self):
        self.assertEqual(arms.__module__, "mirrorwords.middles")


class AskersOwn(unittest.TestCase):
    def test_a_list_that_was_told_is_the_askers_own(self):
        for text in ["", "a", "aba", "aabaa", "ab" * 100]:
            told = arms(text)
            kept = list(told)
            told.append(7)
            told[0] = 99
            self.assertEqual(arms(text), kept)
            arms(text).clear()
            self.assertEqual(arms(text), kept)
            again = arms(text)
            arms("zzz")
            self.assertEqual(again, kept)


class Refusals(unittest.TestCase):
    def test_strings_that_are_no_texts(self):
        for thing in NO_TEXT_STRINGS:
            with self.subTest(thing=thing):
                self.assertIs(refusal_of(arms, thing), BadText)

    def test_other_kinds(self):
        for thing in other_kinds():
            with self.subTest(thing=thing):
                self.assertIs(refusal_of(arms, thing), BadText)

    def test_what_is_handed_in_is_not_changed(self):
        for thing in [["a", "b", "a"], [["a"]], {"a": ["b"]}, [], {}, {"a"}]:
            before = copy.deepcopy(thing)
            refusal_of(arms, thing)
            self.assertEqual(thing, before)

    def test_a_refusal_changes_nothing(self):
        before = [arms(text) for text in all_texts("ab", 5)]
        for thing in other_kinds() + NO_TEXT_STRINGS:
            refusal_of(arms, thing)
        self.assertEqual([arms(text) for text in all_texts("ab", 5)], before)


if __name__ == "__main__":
    unittest.main()
