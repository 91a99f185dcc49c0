"""Texts, mirror words, and the inner one, the tail and the chain of a mirror word."""

import copy
import unittest

from mirrorwords import words
from mirrorwords.errors import BadWord
from mirrorwords.words import MOST, chain, inner, is_mirror, is_text, tail
from tests.helper import (
    LETTERS, NO_TEXT_STRINGS, all_texts, mirrored, other_kinds, refusal_of, same_from_behind, unlike_text)

LONG_MIRRORS = [
    "a" * 199,
    "a" * 200,
    "z" * 200,
    mirrored("a" * 99, "bb"),
    mirrored("ab" * 50),
    mirrored("ab" * 49 + "a", "b"),
    mirrored(unlike_text(100, 1, 26)),
    mirrored(unlike_text(99, 2, 2), "q"),
    mirrored(unlike_text(100, 3, 2)),
    "aba" * 66,
    mirrored(mirrored(unlike_text(24, 4, 3), "xy") + "z"),
]
SMALL_MIRRORS = [text for text in all_texts("abc", 7) if text and same_from_behind(text)]
LONE_LETTERS = list(LETTERS)
TWINS = [letter * 2 for letter in LETTERS]
REPEATED = [letter * many for letter in "aqz" for many in range(1, 12)]
MIRRORS = LONE_LETTERS + TWINS + REPEATED + SMALL_MIRRORS + LONG_MIRRORS

UNLIKE_TEXTS = ["ab", "ba", "aab", "abb", "abca", "abcab", "az", LETTERS, "a" * 199 + "b", "b" + "a" * 199, "ab" * 100]


def chain_by_letters(word):
    """All shorter ends that read alike, looked at one by one, the longest first."""
    found = []
    for many in range(len(word), 0, -1):
        end = word[len(word) - many:]
        if same_from_behind(end):
            found.append(end)
    return found


class IsText(unittest.TestCase):
    def test_most(self):
        self.assertIs(type(MOST), int)
        self.assertEqual(MOST, 200)

    def test_texts(self):
        for text in ["", "a", "z", "aa", "ab", LETTERS, LETTERS[::-1], "a" * 200, "z" * 200, "ab" * 100, "a" * 199]:
            with self.subTest(text=text):
                self.assertIs(is_text(text), True)

    def test_each_letter(self):
        for letter in LETTERS:
            self.assertIs(is_text(letter), True)
            self.assertIs(is_text("a" + letter + "z"), True)

    def test_strings_that_are_no_texts(self):
        for thing in NO_TEXT_STRINGS:
            with self.subTest(thing=thing):
                self.assertIs(is_text(thing), False)

    def test_a_wrong_sign_in_each_place(self):
        for sign in "A Z1\n\t~`{":
            for place in range(200):
                self.assertIs(is_text("a" * place + sign + "a" * (199 - place)), False)

    def test_other_kinds(self):
        for thing in other_kinds():
            with self.subTest(thing=thing):
                self.assertIs(is_text(thing), False)

    def test_argument_by_name(self):
        self.assertIs(is_text(thing="ab"), True)


class IsMirror(unittest.TestCase):
    def test_mirror_words(self):
        for word in MIRRORS:
            with self.subTest(word=word):
                self.assertIs(is_mirror(word), True)

    def test_the_text_of_none_is_no_word(self):
        self.assertIs(is_mirror(""), False)

    def test_texts_that_read_otherwise(self):
        for text in UNLIKE_TEXTS:
            with self.subTest(text=text):
                self.assertIs(is_text(text), True)
                self.assertIs(is_mirror(text), False)

    def test_all_small_texts(self):
        for text in all_texts("abz", 6):
            self.assertIs(is_mirror(text), text != "" and same_from_behind(text))

    def test_strings_that_are_no_texts(self):
        for thing in NO_TEXT_STRINGS:
            with self.subTest(thing=thing):
                self.assertIs(is_mirror(thing), False)

    def test_other_kinds(self):
        for thing in other_kinds():
            with self.subTest(thing=thing):
                self.assertIs(is_mirror(thing), False)

    def test_argument_by_name(self):
        self.assertIs(is_mirror(thing="aba"), True)


class Inner(unittest.TestCase):
    def test_told_by_hand(self):
        for word, told in [("a", ""), ("aa", ""), ("aba", "b"), ("aaa", "a"), ("abba", "bb"), ("level", "eve")]:
            with self.subTest(word=word):
                self.assertEqual(inner(word), told)

    def test_all(self):
        for word in MIRRORS:
            with self.subTest(word=word):
                told = inner(word)
                self.assertIs(type(told), str)
                self.assertEqual(told, "".join(word[place] for place in range(1, len(word) - 1)))

    def test_argument_by_name(self):
        self.assertEqual(inner(word="aba"), "b")


class Tail(unittest.TestCase):
    def test_told_by_hand(self):
        for word, told in [
                ("a", ""), ("aa", "a"), ("aba", "a"), ("aaa", "aa"), ("abba", "a"), ("ababa", "aba"),
                ("aabaa", "aa"), ("abaaba", "aba"), ("level", "l")]:
            with self.subTest(word=word):
                self.assertEqual(tail(word), told)

    def test_all(self):
        for word in MIRRORS:
            with self.subTest(word=word):
                told = tail(word)
                self.assertIs(type(told), str)
                self.assertEqual(told, (chain_by_letters(word) + [""])[1])

    def test_argument_by_name(self):
        self.assertEqual(tail(word="aba"), "a")


class Chain(unittest.TestCase):
    def test_told_by_hand(self):
        for word, told in [
                ("a", ["a"]), ("aa", ["aa", "a"]), ("aba", ["aba", "a"]), ("aaa", ["aaa", "aa", "a"]),
                ("abba", ["abba", "a"]), ("ababa", ["ababa", "aba", "a"]), ("aabaa", ["aabaa", "aa", "a"]),
                ("abaaba", ["abaaba", "aba", "a"])]:
            with self.subTest(word=word):
                self.assertEqual(chain(word), told)

    def test_all(self):
        for word in MIRRORS:
            with self.subTest(word=word):
                told = chain(word)
                self.assertIs(type(told), list)
                self.assertTrue(all(type(end) is str for end in told))
                self.assertEqual(told, chain_by_letters(word))

    def test_one_letter_repeated(self):
        self.assertEqual(chain("a" * 200), ["a" * many for many in range(200, 0, -1)])

    def test_it_is_the_row_of_the_tails(self):
        for word in MIRRORS:
            row = []
            end = word
            while end:
                row.append(end)
                end = tail(end)
            self.assertEqual(chain(word), row)

    def test_a_list_that_was_told_is_the_askers_own(self):
        for word in ["a", "aa", "ababa", "a" * 200]:
            told = chain(word)
            kept = list(told)
            told.append("q")
            told[0] = "changed"
            self.assertEqual(chain(word), kept)
            chain(word).clear()
            self.assertEqual(chain(word), kept)
            self.assertEqual(tail(word), (kept + [""])[1])
            again = chain(word)
            chain("bab")
            self.assertEqual(again, kept)

    def test_argument_by_name(self):
        self.assertEqual(chain(word="aba"), ["aba", "a"])


class Refusals(unittest.TestCase):
    def assert_all_three_refuse(self, thing):
        for deed in (inner, tail, chain):
            with self.subTest(deed=deed.__name__, thing=thing):
                self.assertIs(refusal_of(deed, thing), BadWord)

    def test_the_text_of_none(self):
        self.assert_all_three_refuse("")

    def test_texts_that_read_otherwise(self):
        for text in UNLIKE_TEXTS:
            self.assert_all_three_refuse(text)

    def test_more_than_200_letters(self):
        for text in ["a" * 201, mirrored("ab" * 50, "c"), "a" * 1000]:
            self.assertTrue(same_from_behind(text))
            self.assert_all_three_refuse(text)

    def test_strings_that_are_no_texts(self):
        for thing in NO_TEXT_STRINGS:
            self.assert_all_three_refuse(thing)

    def test_other_kinds(self):
        for thing in other_kinds():
            self.assert_all_three_refuse(thing)

    def test_what_is_handed_in_is_not_changed(self):
        for thing in [["a", "b", "a"], [["a"]], {"a": ["b"]}, [], {}, {"a"}]:
            before = copy.deepcopy(thing)
            is_text(thing)
            is_mirror(thing)
            for deed in (inner, tail, chain):
                refusal_of(deed, thing)
            self.assertEqual(thing, before)

    def test_a_refusal_changes_nothing(self):
        before = [(inner(word), tail(word), chain(word)) for word in SMALL_MIRRORS]
        for thing in other_kinds() + UNLIKE_TEXTS:
            for deed in (inner, tail, chain):
                refusal_of(deed, thing)
        self.assertEqual([(inner(word), tail(word), chain(word)) for word in SMALL_MIRRORS], before)
        self.assertEqual(words.MOST, 200)


class Interface(unittest.TestCase):
    def test_each_function_is_defined_in_its_file(self):
        for deed in (is_text, is_mirror, inner, tail, chain):
            self.assertEqual(deed.__module__, "mirrorwords.words")


if __name__ == "__main__":
    unittest.main()
