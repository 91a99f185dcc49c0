"""Which lists are arms, and the least text that has given ones."""

import copy
import unittest
from itertools import product

from mirrorwords.errors import BadArms, NoText
from mirrorwords.middles import arms
from mirrorwords.rebuilt import is_arms, least_text
from tests.helper import (
    LETTERS, Plain, all_texts, arms_by_letters, mirrored, other_kinds, refusal_of, unlike_text)

# Each asks two letters to be alike by way of others, and by itself to be unlike.
NO_TEXT_ARMS = [
    [0, 1, 0, 1, 0],
    [0, 1, 1, 0, 0],
    [0, 0, 1, 1, 0],
    [0, 1, 1, 0, 1, 1, 0],
    [0, 1, 0, 2, 0, 1, 0],
    [0] * 198 + [0, 1, 0, 1, 0] + [0] * 196,
]
LONG_TEXTS = [
    "a" * 199, "a" * 200, "z" * 200, "ab" * 100, "zy" * 100, "zyx" * 66 + "zy", LETTERS * 7 + LETTERS[:18],
    "a" * 100 + "b" * 100, "a" * 199 + "b", "b" + "a" * 199, "q" * 99 + "x" + "q" * 100,
    mirrored(unlike_text(100, 31, 26)), mirrored(unlike_text(99, 32, 2), "xy"),
    mirrored(mirrored("zxxy" * 12, "q"), "p"),
] + [unlike_text(many, step, kinds) for many in (37, 120, 200) for step in (41, 42) for kinds in (1, 2, 3, 5, 26)]


def row_of_words(kinds):
    """A text whose end needs a new letter for each kind: a, aba, abacaba, and so on."""
    text = ""
    for letter in LETTERS[:kinds]:
        text = text + letter + text
    return text


def rooms(many):
    """How far each middle of a text of so many letters can reach: to the nearer of the text's ends."""
    told = []
    for place in range(many):
        if place > 0:
            told.append(min(place, many - place))
        told.append(min(place, many - 1 - place))
    return told


def least_texts(texts):
    """For the arms of each text, the first of these texts in the order of texts that has them."""
    least = {}
    for text in sorted(texts):
        least.setdefault(tuple(arms_by_letters(text)), text)
    return least


def texts_by_first_letters(most):
    """All texts of up to so many letters in which each new letter is the next one of a to z."""
    grown = [""]
    told = [""]
    for _ in range(most):
        grown = [text + letter for text in grown for letter in LETTERS[:len(set(text)) + 1]]
        told += grown
    return told


def least_by_ties(row):
    """The least text by all letters that arms tie together, and all that they hold apart."""
    many = (len(row) + 1) // 2
    groups = list(range(many))
    apart = []
    for middle, arm in enumerate(row):
        left, right = (middle - 1) // 2, middle // 2 + 1
        for far in range(arm):
            old, new = groups[right + far], groups[left - far]
            if old != new:
                groups = [new if group == old else group for group in groups]
        if left - arm >= 0 and right + arm < many:
            apart.append((left - arm, right + arm))
    letters = {}
    held = [(groups[left], groups[right]) for left, right in apart]
    for group in groups:
        if group not in letters:
            barred = [letters.get(other) for pair in held if group in pair for other in pair]
            letters[group] = min(letter for letter in LETTERS if letter not in barred)
    return "".join(letters[group] for group in groups)


class IsArms(unittest.TestCase):
    def test_each_length(self):
        for many in range(0, 810):
            with self.subTest(many=many):
                self.assertIs(is_arms([0] * many), many == 0 or many in range(1, 400, 2))

    def test_lengths_at_the_edges(self):
        for many in (0, 1, 3, 399):
            self.assertIs(is_arms([0] * many), True)
        for many in (2, 4, 398, 400, 401):
            self.assertIs(is_arms([0] * many), False)

    def test_each_middle_up_to_the_texts_ends(self):
        for many in (1, 2, 3, 4, 5, 8, 199, 200):
            for middle, room in enumerate(rooms(many)):
                row = [0] * (2 * many - 1)
                row[middle] = room
                self.assertIs(is_arms(row), True)
                for beyond in (room + 1, room + 2, 200, 10 ** 30):
                    row[middle] = beyond
                    self.assertIs(is_arms(row), False)

    def test_all_at_the_texts_ends(self):
        self.assertEqual(rooms(20), arms_by_letters("a" * 20))
        for many in range(1, 201):
            self.assertIs(is_arms(rooms(many)), True)

    def test_beyond_the_ends_at_the_first_a_middle_and_the_last_place(self):
        for row in [[1], [1, 0, 0], [0, 2, 0], [0, 0, 1], [1, 0, 0, 0, 0], [0, 0, 2, 0, 0], [0, 0, 0, 0, 1]]:
            with self.subTest(row=row):
                self.assertIs(is_arms(row), False)

    def test_below_nought(self):
        for many in (1, 2, 5, 200):
            for place in (0, many - 1, 2 * many - 2):
                for below in (-1, -2, -200, -10 ** 30):
                    row = [0] * (2 * many - 1)
                    row[place] = below
                    self.assertIs(is_arms(row), False)

    def test_other_kinds_among_the_numbers(self):
        # Each of these, were it taken for a number, would be in reach.
        for thing in [True, False, None, "", "0", "a", 0.0, 1.0, 0j, b"", [], [0], (), (0,), {}, set(), Plain()]:
            for row in [[0, 1, 1, 1, 0], [0, 0, 0, 0, 0]]:
                for place in (0, 1, 2, 3, 4):
                    with self.subTest(thing=thing, place=place):
                        odd = list(row)
                        odd[place] = thing
                        self.assertIs(is_arms(odd), False)

    def test_lists_of_one_other_thing(self):
        for thing in [True, False, None, "a", "", 0.0, [], [0], (0,)]:
            self.assertIs(is_arms([thing]), False)

    def test_other_kinds(self):
        for thing in other_kinds() + ["", "a", "000", (0,), (0, 0, 0), {0: 0}, {0}, range(1), iter([0]), b"\x00"]:
            with self.subTest(thing=thing):
                self.assertIs(is_arms(thing), thing == [] and type(thing) is list)

    def test_the_arms_of_texts(self):
        for text in all_texts("abc", 5) + LONG_TEXTS:
            self.assertIs(is_arms(arms(text)), True)

    def test_arms_that_no_text_has(self):
        for row in NO_TEXT_ARMS:
            self.assertIs(is_arms(row), True)

    def test_argument_by_name(self):
        self.assertIs(is_arms(thing=[0]), True)


class LeastText(unittest.TestCase):
    def test_told_by_hand(self):
        for row, told in [
                ([], ""), ([0], "a"), ([0, 0, 0], "ab"), ([0, 1, 0], "aa"), ([0, 0, 1, 0, 0], "aba"),
                ([0, 0, 0, 0, 0], "abc"), ([0, 1, 0, 0, 0], "aab"), ([0, 0, 0, 1, 0], "abb"), ([0, 1, 1, 1, 0], "aaa"),
                ([0, 0, 0, 2, 0, 0, 0], "abba"), ([0, 0, 1, 0, 1, 0, 0], "abab"), ([0] * 7, "abca"),
                ([0, 0, 1, 0, 0, 0, 0], "abac")]:
            with self.subTest(row=row):
                self.assertEqual(least_text(row), told)

    def test_against_all_small_texts(self):
        for row, text in least_texts(all_texts("abcd", 6)).items():
            with self.subTest(text=text):
                told = least_text(list(row))
                self.assertIs(type(told), str)
                self.assertEqual(told, text)

    def test_against_texts_of_as_many_kinds_as_letters(self):
        for row, text in least_texts(texts_by_first_letters(8)).items():
            with self.subTest(text=text):
                self.assertEqual(least_text(list(row)), text)

    def test_greater_texts_with_the_same_arms(self):
        for text, told in [("z", "a"), ("zz", "aa"), ("ba", "ab"), ("xyx", "aba"), ("zyx", "abc"), ("pqrs", "abca")]:
            self.assertEqual(least_text(arms(text)), told)

    def test_nought_at_each_length(self):
        for many in range(1, 201):
            self.assertEqual(least_text([0] * (2 * many - 1)), ("abc" * 67)[:many])

    def test_one_letter_repeated(self):
        for many in range(1, 201):
            self.assertEqual(least_text(rooms(many)), "a" * many)

    def test_long_texts(self):
        for text in LONG_TEXTS:
            with self.subTest(text=text):
                told = least_text(arms(text))
                self.assertLessEqual(told, text)
                self.assertEqual(arms(told), arms(text))
                self.assertEqual(told, least_by_ties(arms(text)))

    def test_many_letters_that_must_be_unlike(self):
        for kinds in range(1, 8):
            text = row_of_words(kinds)
            self.assertEqual(least_text(arms(text)), text)
            # Behind these words each letter so far is barred.
            self.assertEqual(least_text(arms(text + "z")), text + LETTERS[kinds])

    def test_asked_twice(self):
        for text in ["", "b", "zyzy", "q" * 200, "zxzzyx"]:
            row = arms(text)
            first = least_text(row)
            least_text([0, 0, 0])
            self.assertEqual(least_text(row), first)

    def test_the_list_stays_as_it_was(self):
        for text in ["", "b", "zyzy", "q" * 200, unlike_text(200, 51, 2)]:
            row = arms(text)
            kept = list(row)
            least_text(row)
            is_arms(row)
            self.assertEqual(row, kept)

    def test_a_list_that_is_changed_later(self):
        row = [0, 1, 0]
        self.assertEqual(least_text(row), "aa")
        row[1] = 0
        self.assertEqual(least_text(row), "ab")
        row += [0, 0]
        self.assertEqual(least_text(row), "abc")

    def test_argument_by_name(self):
        self.assertEqual(least_text(arms=[0]), "a")


class Refusals(unittest.TestCase):
    def test_all_small_rows(self):
        least = least_texts(texts_by_first_letters(5))
        refused = 0
        for many in range(1, 6):
            for row in product(*[range(room + 1) for room in rooms(many)]):
                if row in least:
                    self.assertEqual(least_text(list(row)), least[row])
                else:
                    refused += 1
                    self.assertIs(refusal_of(least_text, list(row)), NoText)
        self.assertGreater(refused, 100)

    def test_arms_that_no_text_has(self):
        for row in NO_TEXT_ARMS:
            with self.subTest(row=row):
                self.assertIs(refusal_of(least_text, row), NoText)

    def test_one_arm_of_a_long_text_that_is_off(self):
        for text in LONG_TEXTS:
            row = arms(text)
            for middle, room in enumerate(rooms(len(text))):
                if middle % 60 == 7 and room > 2:
                    odd = list(row)
                    odd[middle] = row[middle] - 1 if row[middle] == room else row[middle] + 1
                    asked = least_by_ties(odd)
                    if arms(asked) == odd:
                        self.assertEqual(least_text(odd), asked)
                    else:
                        self.assertIs(refusal_of(least_text, odd), NoText)

    def test_long_rows_that_repeat_little(self):
        for step in range(20):
            signs = unlike_text(199, 60 + step, 26) + unlike_text(200, 90 + step, 26)
            row = [min(room, LETTERS.index(sign) * (step + 1)) for room, sign in zip(rooms(200), signs)]
            self.assertIs(is_arms(row), True)
            self.assertIs(refusal_of(least_text, row), NoText)

    def test_lists_that_are_no_arms(self):
        for row in [
                [0, 0], [0] * 4, [0] * 398, [0] * 400, [0] * 401, [-1], [1], [0, 2, 0], [1, 0, 0], [0, 0, 1],
                [0, -1, 0], [0, 0, -1], [True], [False], [None], ["a"], [[0]], [0, True, 0], [0, False, 0],
                [0, None, 0], [0, "1", 0], [0, 1.0, 0], [0.0], [False, 1, 0], [0, 1, False]]:
            with self.subTest(row=row):
                self.assertIs(refusal_of(least_text, row), BadArms)

    def test_no_arms_that_no_text_could_have_either(self):
        self.assertIs(refusal_of(least_text, [0, 1, 0, 1, True]), BadArms)
        self.assertIs(refusal_of(least_text, [0, 1, 0, 1, -1]), BadArms)

    def test_other_kinds(self):
        for thing in other_kinds() + ["", "a", "aba", (0,), (0, 1, 0), {0: 0}, {0}, range(1), iter([0])]:
            with self.subTest(thing=thing):
                if type(thing) is not list or thing:
                    self.assertIs(refusal_of(least_text, thing), BadArms)

    def test_what_is_handed_in_is_not_changed(self):
        for thing in [[0, 1, 0, 1, 0], [0, 1], [["a"]], [True], {0: [0]}, {}, (0,), [0, [1], 0], [5, 0, 0]]:
            before = copy.deepcopy(thing)
            is_arms(thing)
            refusal_of(least_text, thing)
            self.assertEqual(thing, before)

    def test_a_refusal_changes_nothing(self):
        texts = all_texts("ab", 5)
        before = [least_text(arms(text)) for text in texts]
        for thing in other_kinds() + NO_TEXT_ARMS:
            refusal_of(least_text, thing)
        self.assertEqual([least_text(arms(text)) for text in texts], before)


class Interface(unittest.TestCase):
    def test_each_function_is_defined_in_its_file(self):
        for deed in (is_arms, least_text):
            self.assertEqual(deed.__module__, "mirrorwords.rebuilt")


if __name__ == "__main__":
    unittest.main()
