"""The parting of a text into as few mirror words as can be."""

import copy
import unittest

from mirrorwords.errors import BadText
from mirrorwords.parting import fewest
from tests.helper import (
    LETTERS, NO_TEXT_STRINGS, all_texts, mirrored, other_kinds, refusal_of, same_from_behind, unlike_text)

LONG_TEXTS = [
    "a" * 199, "a" * 200, "z" * 200, "ab" * 100, "abc" * 66 + "ab", "aab" * 66 + "zz", "a" * 100 + "b" * 100,
    "a" * 199 + "b", "b" + "a" * 199, "ab" * 50 + "ba" * 50, LETTERS * 7 + LETTERS[:18],
    mirrored(unlike_text(100, 71, 26)), mirrored(unlike_text(99, 72, 2), "q") + "z",
    mirrored(unlike_text(50, 73, 3)) + mirrored(unlike_text(49, 74, 3), "b") + "a",
] + [unlike_text(many, step, kinds) for many in (33, 90, 200) for step in (75, 76) for kinds in (1, 2, 3, 5, 26)]


def all_partings(text):
    """All rows of mirror words that make up the text, one behind the other."""
    if not text:
        return [[]]
    return [
        [text[:many]] + rest
        for many in range(1, len(text) + 1) if same_from_behind(text[:many])
        for rest in all_partings(text[many:])]


def best_of(partings):
    """The one with the fewest words, of these the one with the longest first word, and so on."""
    return min(partings, key=lambda words: (len(words), [-len(word) for word in words]))


def fewest_by_ends(text):
    """How few words each start of the text takes, and each rest: by the words' ends alone, from both sides."""
    def by_starts(whole):
        few = [0]
        for end in range(1, len(whole) + 1):
            few.append(1 + min(few[start] for start in range(end) if whole[start:end] == whole[start:end][::-1]))
        return few
    return by_starts(text)[-1], by_starts(text[::-1])[::-1]


class Fewest(unittest.TestCase):
    def assert_fewest(self, text, words):
        told = fewest(text)
        self.assertIs(type(told), list)
        self.assertTrue(all(type(word) is str for word in told))
        self.assertEqual(told, words)

    def test_none_is_parted_into_none(self):
        self.assert_fewest("", [])

    def test_one_letter(self):
        for letter in LETTERS:
            self.assert_fewest(letter, [letter])

    def test_told_by_hand(self):
        for text, words in [
                ("aa", ["aa"]), ("ab", ["a", "b"]), ("aab", ["aa", "b"]), ("abb", ["a", "bb"]), ("aba", ["aba"]),
                ("abab", ["aba", "b"]), ("ababab", ["ababa", "b"]), ("abc", ["a", "b", "c"]),
                ("aaab", ["aaa", "b"]), ("noonlevel", ["noon", "level"]), ("abba", ["abba"])]:
            with self.subTest(text=text):
                self.assert_fewest(text, words)

    def test_the_longest_word_at_the_start_may_cost_one_more(self):
        for text, words in [("aaba", ["a", "aba"]), ("aaaba", ["aa", "aba"]), ("aabac", ["a", "aba", "c"])]:
            with self.subTest(text=text):
                self.assert_fewest(text, words)

    def test_of_several_the_longest_first_word_then_the_longest_second(self):
        for text, words, others in [
                ("abab", ["aba", "b"], [["a", "bab"]]),
                ("ababcbc", ["aba", "bcb", "c"], [["aba", "b", "cbc"], ["a", "bab", "cbc"]]),
                ("abacaca", ["aba", "cac", "a"], [["aba", "c", "aca"], ["a", "b", "acaca"]])]:
            with self.subTest(text=text):
                for row in [words] + others:
                    self.assertIn(row, all_partings(text))
                self.assert_fewest(text, words)

    def test_all_small_texts(self):
        for text in all_texts("ab", 10) + all_texts("abc", 7) + all_texts("abcd", 5):
            with self.subTest(text=text):
                self.assert_fewest(text, best_of(all_partings(text)))

    def test_texts_of_ten_or_so_letters(self):
        for many in (9, 10, 11, 12):
            for kinds in (2, 3, 4, 26):
                for step in range(40):
                    text = unlike_text(many, 100 + step, kinds)
                    with self.subTest(text=text):
                        self.assert_fewest(text, best_of(all_partings(text)))

    def test_one_letter_repeated(self):
        for many in range(1, 201):
            self.assert_fewest("q" * many, ["q" * many])

    def test_unlike_letters(self):
        self.assert_fewest(LETTERS, list(LETTERS))
        self.assert_fewest((LETTERS * 8)[:200], list((LETTERS * 8)[:200]))

    def test_200_letters_by_hand(self):
        self.assert_fewest("ab" * 100, ["ab" * 99 + "a", "b"])
        self.assert_fewest("a" * 199 + "b", ["a" * 199, "b"])
        self.assert_fewest("b" + "a" * 199, ["b", "a" * 199])
        self.assert_fewest("a" * 100 + "b" * 100, ["a" * 100, "b" * 100])

    def test_long_texts(self):
        for text in LONG_TEXTS:
            with self.subTest(text=text):
                told = fewest(text)
                self.assertEqual("".join(told), text)
                self.assertTrue(all(word and same_from_behind(word) for word in told))
                least, rests = fewest_by_ends(text)
                self.assertEqual(len(told), least)
                start = 0
                for taken, word in enumerate(told):
                    # No longer word there leaves a rest that takes as few words.
                    for end in range(start + len(word) + 1, len(text) + 1):
                        if same_from_behind(text[start:end]):
                            self.assertGreater(taken + 1 + rests[end], least)
                    start += len(word)

    def test_argument_by_name(self):
        self.assertEqual(fewest(text="aba"), ["aba"])

    def test_it_is_defined_in_its_file(self):
        self.assertEqual(fewest.__module__, "mirrorwords.parting")


class AskersOwn(unittest.TestCase):
    def test_a_list_that_was_told_is_the_askers_own(self):
        for text in ["", "a", "aba", "aab", "abcabc", "ab" * 100]:
            told = fewest(text)
            kept = list(told)
            told.append("q")
            told[0] = "changed"
            self.assertEqual(fewest(text), kept)
            fewest(text).clear()
            self.assertEqual(fewest(text), kept)
            again = fewest(text)
            fewest("zzzy")
            self.assertEqual(again, kept)


class Refusals(unittest.TestCase):
    def test_strings_that_are_no_texts(self):
        for thing in NO_TEXT_STRINGS:
            with self.subTest(thing=thing):
                self.assertIs(refusal_of(fewest, thing), BadText)

    def test_other_kinds(self):
        for thing in other_kinds():
            with self.subTest(thing=thing):
                self.assertIs(refusal_of(fewest, thing), BadText)

    def test_what_is_handed_in_is_not_changed(self):
        for thing in [["a", "b", "a"], [["a"]], {"a": ["b"]}, [], {}, {"a"}]:
            before = copy.deepcopy(thing)
            refusal_of(fewest, thing)
            self.assertEqual(thing, before)

    def test_a_refusal_changes_nothing(self):
        before = [fewest(text) for text in all_texts("ab", 5)]
        for thing in other_kinds() + NO_TEXT_STRINGS:
            refusal_of(fewest, thing)
        self.assertEqual([fewest(text) for text in all_texts("ab", 5)], before)


if __name__ == "__main__":
    unittest.main()
