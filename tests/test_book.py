"""The book: a text that grows and shrinks at both its ends, and the mirror words in it."""

import copy
import unittest

from mirrorwords.book import Book
from mirrorwords.errors import BadLetter, BadText, BadWord, Full, NoPlace
from tests.helper import (
    LETTERS, NO_TEXT_STRINGS, Plain, all_texts, mirrored, other_kinds, refusal_of, same_from_behind, unlike_text)

PUTS = ["put_first", "put_last"]
CUTS = ["cut_first", "cut_last"]

LONG_TEXTS = [
    "a" * 200, "z" * 199, "ab" * 100, "abc" * 66 + "ab", "a" * 100 + "b" * 100, "a" * 199 + "b", "b" + "a" * 199,
    LETTERS * 7 + LETTERS[:18], mirrored(unlike_text(100, 301, 26)), mirrored(unlike_text(99, 302, 2), "q"),
    mirrored("ab" * 50), unlike_text(200, 303, 2), unlike_text(200, 304, 3), unlike_text(200, 305, 26),
]


class Look:
    """What a plain look at all stretches of a text finds."""

    def __init__(self, text):
        self.text = text
        self.counts = {}
        self.begins = [""] * len(text)
        self.ends = [""] * len(text)
        self.longest = ""
        for start in range(len(text)):
            for stop in range(start + 1, len(text) + 1):
                stretch = text[start:stop]
                if stretch == stretch[::-1]:
                    self.note(stretch, start)

    def note(self, word, start):
        """One mirror word that begins at a place; the starts come in order."""
        self.counts[word] = self.counts.get(word, 0) + 1
        if len(word) > len(self.begins[start]):
            self.begins[start] = word
        if len(word) > len(self.ends[start + len(word) - 1]):
            self.ends[start + len(word) - 1] = word
        if len(word) > len(self.longest):
            self.longest = word

    def words(self):
        return sorted(self.counts, key=lambda word: (len(word), word))


def told_by(book):
    """All that a book tells of its text, but for the words that do not stand in it."""
    text = book.whole()
    return (
        text, book.words(), book.many(), [book.count(word) for word in book.words()], book.longest(),
        [book.begins_at(place) for place in range(len(text))], [book.ends_at(place) for place in range(len(text))])


class BookCase(unittest.TestCase):
    def assert_tells(self, book, text):
        """Holds all that the book tells against a plain look; gives that look back."""
        look = Look(text)
        words = book.words()
        self.assertEqual(book.whole(), text)
        self.assertIs(type(book.whole()), str)
        self.assertEqual(words, look.words())
        self.assertIs(type(words), list)
        self.assertTrue(all(type(word) is str for word in words))
        self.assertEqual(book.many(), len(look.counts))
        self.assertIs(type(book.many()), int)
        self.assertEqual({word: book.count(word) for word in words}, look.counts)
        self.assertEqual([book.begins_at(place) for place in range(len(text))], look.begins)
        self.assertEqual([book.ends_at(place) for place in range(len(text))], look.ends)
        self.assertEqual(book.longest(), look.longest)
        return look

    def assert_counts_of_others(self, book, look):
        """Holds the counts of mirror words that stand in the text or do not against the look."""
        for word in ["a", "z", "aa", "zz", "aba", "aza", "abba", "zyxyz", "a" * 199, "a" * 200, "z" * 200]:
            self.assertEqual(book.count(word), look.counts.get(word, 0))
            self.assertIs(type(book.count(word)), int)
        for word in look.words()[-3:]:
            longer = "q" + word + "q"
            if len(longer) <= 200:
                self.assertEqual(book.count(longer), look.counts.get(longer, 0))

    def after(self, book, deed, letter):
        """Does one deed; gives what it told and the text that must stand behind it."""
        text = book.whole()
        if deed == "put_first":
            return book.put_first(letter), letter + text
        if deed == "put_last":
            return book.put_last(letter), text + letter
        if deed == "cut_first":
            return book.cut_first(), text[1:]
        return book.cut_last(), text[:-1]

    def assert_deed(self, book, before, deed, letter):
        """Does one deed and holds what it told against the looks ahead and behind; gives the latter back."""
        told, text = self.after(book, deed, letter)
        behind = self.assert_tells(book, text)
        old, new = (before, behind) if deed in PUTS else (behind, before)
        came = [word for word in new.counts if word not in old.counts]
        self.assertLessEqual(len(came), 1)
        self.assertEqual(told, (came + [None])[0])
        return behind

    def assert_row(self, steps, step, kinds, most, text=""):
        """A long row of deeds, of puts and cuts at both ends in no plain order, held against looks all along."""
        book = Book(text)
        look = self.assert_tells(book, text)
        letters = unlike_text(steps, step, kinds)
        for sign, letter in zip(unlike_text(steps, step + 1000, 7), letters):
            deed = (PUTS + CUTS + PUTS + PUTS)[LETTERS.index(sign)]
            if len(look.text) >= most:
                deed = CUTS[LETTERS.index(letter) % 2]
            if not look.text:
                deed = PUTS[LETTERS.index(letter) % 2]
            look = self.assert_deed(book, look, deed, letter)
        self.assert_counts_of_others(book, look)


class NewBooks(BookCase):
    def test_a_book_of_none(self):
        for book in (Book(), Book("")):
            self.assertEqual(book.whole(), "")
            self.assertEqual(book.words(), [])
            self.assertEqual(book.many(), 0)
            self.assertEqual(book.count("a"), 0)
            self.assertEqual(book.longest(), "")

    def test_told_by_hand(self):
        book = Book("abaab")
        self.assertEqual(book.whole(), "abaab")
        self.assertEqual(book.words(), ["a", "b", "aa", "aba", "baab"])
        self.assertEqual(book.many(), 5)
        self.assertEqual([book.count(word) for word in ("a", "b", "aa", "aba", "baab", "bb", "abba")],
                         [3, 2, 1, 1, 1, 0, 0])
        self.assertEqual([book.begins_at(place) for place in range(5)], ["aba", "baab", "aa", "a", "b"])
        self.assertEqual([book.ends_at(place) for place in range(5)], ["a", "b", "aba", "aa", "baab"])
        self.assertEqual(book.longest(), "baab")

    def test_words_in_order(self):
        self.assertEqual(Book("zbaabzyy").words(), ["a", "b", "y", "z", "aa", "yy", "baab", "zbaabz"])
        self.assertEqual(Book("cbabcaa").words(), ["a", "b", "c", "aa", "bab", "cbabc"])
        self.assertEqual(Book("zzyyxx").words(), ["x", "y", "z", "xx", "yy", "zz"])

    def test_counts_of_words_that_overlap(self):
        book = Book("aaaaabab")
        for word, times in [("a", 6), ("aa", 4), ("aaa", 3), ("aaaaa", 1), ("aaaaaa", 0), ("aba", 1), ("bab", 1)]:
            self.assertEqual(book.count(word), times)
        self.assertEqual(Book("ababababa").count("aba"), 4)

    def test_the_longest_that_begins_first(self):
        for text, word in [("ab", "a"), ("ba", "b"), ("aabb", "aa"), ("bbaa", "bb"), ("zyzaba", "zyz"), ("abcdd", "dd"),
                           ("", ""), ("abcbaxxabcba", "abcbaxxabcba"), ("xabayaba", "abayaba"), ("cbcaba", "cbc")]:
            self.assertEqual(Book(text).longest(), word)

    def test_all_small_texts(self):
        for text in all_texts("ab", 7) + all_texts("abc", 5):
            with self.subTest(text=text):
                book = Book(text)
                self.assert_counts_of_others(book, self.assert_tells(book, text))

    def test_long_texts(self):
        for text in LONG_TEXTS:
            with self.subTest(text=text):
                book = Book(text)
                self.assert_counts_of_others(book, self.assert_tells(book, text))

    def test_one_letter_repeated(self):
        for many in (1, 2, 3, 50, 200):
            book = Book("q" * many)
            self.assertEqual(book.words(), ["q" * size for size in range(1, many + 1)])
            self.assertEqual([book.count(word) for word in book.words()], list(range(many, 0, -1)))
            self.assertEqual(book.longest(), "q" * many)

    def test_unlike_letters(self):
        book = Book(LETTERS[::-1])
        self.assertEqual(book.words(), list(LETTERS))
        self.assertEqual(book.longest(), "z")

    def test_arguments_by_name(self):
        book = Book(text="ab")
        self.assertEqual(book.put_first(letter="b"), "bab")
        self.assertEqual(book.put_last(letter="c"), "c")
        self.assertEqual(book.count(word="b"), 2)
        self.assertEqual(book.begins_at(place=0), "bab")
        self.assertEqual(book.ends_at(place=0), "b")


class Deeds(BookCase):
    def test_told_by_hand(self):
        book = Book()
        self.assertEqual(book.put_last("a"), "a")
        self.assertEqual(book.put_last("b"), "b")
        self.assertEqual(book.put_first("b"), "bab")
        self.assertEqual(book.put_first("b"), "bb")
        self.assertEqual(book.put_last("b"), "bbabb")
        self.assertEqual(book.whole(), "bbabb")
        self.assertEqual(book.put_last("b"), "bbb")
        self.assertEqual(book.put_last("a"), "abbba")
        self.assertEqual(book.whole(), "bbabbba")
        self.assertEqual(book.cut_last(), "abbba")
        self.assertEqual(book.cut_last(), "bbb")
        self.assertEqual(book.cut_first(), "bbabb")
        self.assertEqual(book.whole(), "babb")
        self.assertEqual(book.cut_first(), "bab")
        self.assertEqual(book.cut_first(), "a")
        self.assertEqual(book.cut_first(), "bb")
        self.assertEqual(book.cut_first(), "b")
        self.assertEqual(book.whole(), "")

    def test_deeds_that_bring_and_take_none(self):
        book = Book("abc")
        self.assertIsNone(book.put_last("a"))
        self.assertIsNone(book.put_first("c"))
        self.assertEqual(book.whole(), "cabca")
        self.assertIsNone(book.cut_last())
        self.assertIsNone(book.cut_first())
        self.assertEqual(book.whole(), "abc")

    def test_each_deed_at_all_small_texts(self):
        looks = {text: Look(text) for text in all_texts("abc", 6)}
        for text in all_texts("abc", 5):
            for deed, letter in [(put, letter) for put in PUTS for letter in "abc"] + [(cut, "") for cut in CUTS]:
                if text or deed in PUTS:
                    book = Book(text)
                    told, behind = self.after(book, deed, letter)
                    self.assertEqual(book.whole(), behind)
                    words = {deed in PUTS: looks[behind].counts, deed in CUTS: looks[text].counts}
                    came = [word for word in words[True] if word not in words[False]]
                    self.assertEqual(told, (came + [None])[0])

    def test_long_rows_of_few_unlike_letters(self):
        for step in range(12):
            self.assert_row(150, 400 + step, 2, 24)
            self.assert_row(150, 430 + step, 3, 24)

    def test_long_rows_of_many_unlike_letters(self):
        for step in range(6):
            self.assert_row(150, 460 + step, 26, 30)
            self.assert_row(150, 480 + step, 6, 30)

    def test_long_rows_of_one_letter(self):
        for step in range(3):
            self.assert_row(120, 500 + step, 1, 30)

    def test_long_rows_at_texts_that_read_alike(self):
        texts = ["level", "abacabadabacaba", mirrored("abcab", "c"), "aabaa", "abababababa", "q" * 9]
        for step, text in enumerate(texts):
            self.assert_row(100, 520 + step, 2, 30, text)
            self.assert_row(100, 540 + step, 3, 30, text)

    def test_rows_at_long_texts(self):
        for step, text in enumerate(LONG_TEXTS):
            self.assert_row(6, 560 + step, 3, 200, text)

    def test_a_text_that_reads_alike_grown_at_both_ends(self):
        book = Book("x")
        look = Look("x")
        for letter in "aabcabbaacz":
            look = self.assert_deed(book, look, "put_first", letter)
            look = self.assert_deed(book, look, "put_last", letter)
            self.assertTrue(same_from_behind(book.whole()))
            self.assertEqual(book.longest(), book.whole())
        while look.text:
            look = self.assert_deed(book, look, CUTS[len(look.text) % 2], "")

    def test_200_letters_cut_down_to_none_and_grown_again(self):
        texts = [unlike_text(200, 601, 2), unlike_text(200, 602, 26), "a" * 200, mirrored(unlike_text(100, 603, 3))]
        for text in texts:
            book = Book(text)
            for turn in range(200):
                told, behind = self.after(book, CUTS[turn % 3 % 2], "")
                self.assertEqual(book.whole(), behind)
                if turn % 20 == 0:
                    self.assert_tells(book, behind)
            self.assertEqual(book.whole(), "")
            self.assertEqual(book.words(), [])
            self.assertIs(refusal_of(book.cut_first), NoPlace)
            for letter in text:
                book.put_last(letter)
            self.assert_tells(book, text)
            self.assertIs(refusal_of(book.put_last, "a"), Full)

    def test_grown_letter_by_letter_from_either_end(self):
        for text in ["abaab", "zzz", LETTERS, unlike_text(60, 604, 2), unlike_text(200, 605, 3)]:
            front, back = Book(), Book()
            came = []
            for letter in text:
                came.append(back.put_last(letter))
            for letter in text[::-1]:
                front.put_first(letter)
            self.assertEqual(told_by(front), told_by(Book(text)))
            self.assertEqual(told_by(back), told_by(Book(text)))
            # Each word of the text came once.
            self.assertEqual(sorted(word for word in came if word is not None), sorted(Look(text).counts))

    def test_a_word_that_went_comes_again(self):
        book = Book("abacab")
        self.assertEqual(book.cut_last(), "bacab")
        self.assertEqual(book.put_last("b"), "bacab")
        self.assertEqual(book.cut_first(), "aba")
        self.assertEqual(book.put_first("a"), "aba")
        self.assertEqual(book.cut_first(), "aba")


class AskersOwn(BookCase):
    def test_two_books_know_nothing_of_each_other(self):
        one, other = Book("aba"), Book("aba")
        third = Book()
        self.assertEqual(one.put_last("b"), "bab")
        self.assertEqual(other.whole(), "aba")
        self.assertEqual(other.put_last("c"), "c")
        self.assertEqual(third.put_first("z"), "z")
        self.assertEqual(one.cut_first(), "aba")
        self.assert_tells(one, "bab")
        self.assert_tells(other, "abac")
        self.assert_tells(third, "z")
        self.assert_tells(Book(), "")

    def test_told_lists_are_the_askers_own(self):
        for text in ["", "a", "abaab", "ab" * 100]:
            book = Book(text)
            before = told_by(book)
            words = book.words()
            words.append("q")
            words[0] = "changed"
            self.assertEqual(told_by(book), before)
            book.words().clear()
            self.assertEqual(told_by(book), before)

    def test_deeds_change_nothing_that_was_told(self):
        book = Book("abaab")
        words = book.words()
        whole = book.whole()
        book.put_last("z")
        book.cut_first()
        self.assertEqual(words, ["a", "b", "aa", "aba", "baab"])
        self.assertEqual(whole, "abaab")

    def test_asking_changes_nothing(self):
        book = Book("abacab")
        before = told_by(book)
        self.assertEqual(told_by(book), before)
        self.assertEqual(book.put_last("a"), "abacaba")


class Refusals(BookCase):
    def setUp(self):
        texts = ["", "a", "abaab", "aabbaa", "ab" * 100, unlike_text(200, 701, 3)]
        self.books = [Book(text) for text in texts]
        self.before = [told_by(book) for book in self.books]

    def assert_refused(self, name, thing, kind):
        """Each book refuses it with this class alone."""
        for book in self.books:
            with self.subTest(name=name, thing=thing):
                self.assertIs(refusal_of(getattr(book, name), thing), kind)

    def assert_nothing_changed(self):
        self.assertEqual([told_by(book) for book in self.books], self.before)

    def test_no_letters(self):
        signs = [sign for sign in map(chr, range(32, 127)) if sign not in LETTERS]
        for name in PUTS:
            for thing in ["", "aa", "ab", "a ", " a", "a\n", "\n", "\t", "A", "Z", LETTERS, "a" * 201] + signs:
                self.assert_refused(name, thing, BadLetter)
            for thing in other_kinds() + [["a"], ("a",), 97, True, b"a", {"a": "a"}]:
                self.assert_refused(name, thing, BadLetter)
        self.assert_nothing_changed()

    def test_each_letter_is_one(self):
        for letter in LETTERS:
            self.assertEqual(Book().put_first(letter), letter)
            self.assertEqual(Book().put_last(letter), letter)
            self.assertEqual(Book(letter).cut_first(), letter)
            self.assertEqual(Book(letter).cut_last(), letter)

    def test_full(self):
        for text in LONG_TEXTS:
            if len(text) == 200:
                book = Book(text)
                before = told_by(book)
                for name in PUTS:
                    for letter in "amz":
                        self.assertIs(refusal_of(getattr(book, name), letter), Full)
                    # What is no letter is refused as such, room or none.
                    for thing in ["", "aa", "A", None, True, 0, ["a"]]:
                        self.assertIs(refusal_of(getattr(book, name), thing), BadLetter)
                self.assertEqual(told_by(book), before)

    def test_199_letters_are_not_full(self):
        for name in PUTS:
            book = Book("a" * 199)
            self.assertEqual(getattr(book, name)("a"), "a" * 200)
            self.assertIs(refusal_of(getattr(book, name), "a"), Full)
            self.assert_tells(book, "a" * 200)

    def test_a_put_that_had_no_room_is_done_once_it_has(self):
        book = Book("a" * 200)
        self.assertIs(refusal_of(book.put_last, "b"), Full)
        self.assertEqual(book.cut_first(), "a" * 200)
        self.assertEqual(book.put_last("b"), "b")
        self.assertIs(refusal_of(book.put_first, "c"), Full)
        self.assertEqual(book.cut_last(), "b")
        self.assertEqual(book.put_first("c"), "c")
        self.assert_tells(book, "c" + "a" * 199)

    def test_cuts_of_a_text_of_none(self):
        for name in CUTS:
            for book in (Book(), Book("")):
                self.assertIs(refusal_of(getattr(book, name)), NoPlace)
                self.assert_tells(book, "")
                # Done once there is a letter.
                self.assertEqual(book.put_last("a"), "a")
                self.assertEqual(getattr(book, name)(), "a")
                self.assertIs(refusal_of(getattr(book, name)), NoPlace)
                self.assertEqual(book.put_first("b"), "b")
                self.assert_tells(book, "b")

    def test_no_places(self):
        for name in ("begins_at", "ends_at"):
            for book in self.books:
                many = len(book.whole())
                for place in (-1, -2, -many, -many - 1, many, many + 1, 200, 201, 10 ** 30, -10 ** 30):
                    if place not in range(many):
                        with self.subTest(name=name, many=many, place=place):
                            self.assertIs(refusal_of(getattr(book, name), place), NoPlace)
            for thing in [True, False, None, "0", "a", "", 0.0, 1.0, b"0", [0], (0,), {0: 0}, {0}, Plain(), [], ()]:
                self.assert_refused(name, thing, NoPlace)
        self.assert_nothing_changed()

    def test_a_place_refused_is_told_once_it_is_there(self):
        book = Book()
        for many in range(1, 6):
            self.assertIs(refusal_of(book.begins_at, many - 1), NoPlace)
            self.assertIs(refusal_of(book.ends_at, many - 1), NoPlace)
            book.put_last("a")
            self.assertEqual(book.begins_at(many - 1), "a")
            self.assertEqual(book.ends_at(many - 1), "a" * many)
        book.cut_first()
        self.assertIs(refusal_of(book.begins_at, 4), NoPlace)
        self.assertIs(refusal_of(book.ends_at, 4), NoPlace)

    def test_counts_of_no_mirror_words(self):
        for thing in ["", "ab", "aab", "abab", "a" * 201, mirrored("ab" * 50, "c"), LETTERS] + NO_TEXT_STRINGS:
            self.assert_refused("count", thing, BadWord)
        for thing in other_kinds():
            self.assert_refused("count", thing, BadWord)
        self.assert_nothing_changed()

    def test_books_of_no_texts(self):
        for thing in NO_TEXT_STRINGS + other_kinds():
            with self.subTest(thing=thing):
                self.assertIs(refusal_of(Book, thing), BadText)
        self.assert_nothing_changed()

    def test_what_is_handed_in_is_not_changed(self):
        book = Book("aba")
        deeds = [Book, book.put_first, book.put_last, book.count, book.begins_at, book.ends_at]
        for thing in [["a", "b", "a"], [["a"]], {"a": ["b"]}, [], {}, {"a"}, [0]]:
            before = copy.deepcopy(thing)
            for deed in deeds:
                refusal_of(deed, thing)
            self.assertEqual(thing, before)
        self.assert_tells(book, "aba")


class Interface(unittest.TestCase):
    def test_the_class_and_its_methods_are_defined_in_its_file(self):
        self.assertEqual(Book.__module__, "mirrorwords.book")
        for name in PUTS + CUTS + ["whole", "words", "many", "count", "begins_at", "ends_at", "longest"]:
            self.assertIn(name, vars(Book))


if __name__ == "__main__":
    unittest.main()
