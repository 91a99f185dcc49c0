"""A text that grows and shrinks at both its ends, and the mirror words that stand in it."""

from mirrorwords.errors import BadLetter, Full, NoPlace
from mirrorwords.whole_numbers import is_number_to
from mirrorwords.words import MOST, is_text, longest_at_end, longest_at_start, refuse_no_mirror, refuse_no_text


class Book:
    """A text, letter by letter, and what it tells of its mirror words."""

    def __init__(self, text=""):
        refuse_no_text(text)
        self._text = text

    def put_first(self, letter):
        """Puts a letter ahead of the text; the mirror word that came, or None."""
        refuse_put(letter, self._text)
        before = self._text
        self._text = letter + before
        return unless_in(before, longest_at_start(self._text))

    def put_last(self, letter):
        """Puts a letter behind the text; the mirror word that came, or None."""
        refuse_put(letter, self._text)
        before = self._text
        self._text = before + letter
        return unless_in(before, longest_at_end(self._text))

    def cut_first(self):
        """Cuts the first letter off; the mirror word that went, or None."""
        refuse_cut(self._text)
        word = longest_at_start(self._text)
        self._text = self._text[1:]
        return unless_in(self._text, word)

    def cut_last(self):
        """Cuts the last letter off; the mirror word that went, or None."""
        refuse_cut(self._text)
        word = longest_at_end(self._text)
        self._text = self._text[:-1]
        return unless_in(self._text, word)

    def whole(self):
        """The text."""
        return self._text

    def words(self):
        """All mirror words in the text, each once, the shorter ones first, of those as long as texts are ordered."""
        # A word that ends somewhere for the first time is the longest that ends there: within a longer one it would
        # stand at the start, too. So the longest at each place are all.
        found = sorted({self.ends_at(place) for place in range(len(self._text))})
        # Words of one length stay in the order that they have.
        return sorted(found, key=len)

    def many(self):
        """How many unlike mirror words stand in the text."""
        return len(self.words())

    def count(self, word):
        """At how many places of the text the mirror word begins."""
        refuse_no_mirror(word)
        # The text's own count would leave out the places where the word overlaps itself.
        return len([place for place in range(len(self._text)) if self._text[place:place + len(word)] == word])

    def begins_at(self, place):
        """The longest mirror word that begins at the place."""
        refuse_no_place(place, self._text)
        return longest_at_start(self._text[place:])

    def ends_at(self, place):
        """The longest mirror word that ends at the place."""
        refuse_no_place(place, self._text)
        return longest_at_end(self._text[:place + 1])

    def longest(self):
        """The longest mirror word, of several the one that begins first; no letters for a text of none."""
        # Of several as long, max takes the first.
        return max([self.begins_at(place) for place in range(len(self._text))], key=len, default="")


def unless_in(text, word):
    """The word where it stands nowhere in the text; else None."""
    # A letter at an end brings or takes no other word than the longest there: each shorter one stands at the longest
    # one's other end, too.
    if word in text:
        return None
    return word


def refuse_put(letter, text):
    """Raises BadLetter of what is no letter, then Full where the text has no room for one."""
    if not (is_text(letter) and len(letter) == 1):
        raise BadLetter("a letter is one of a to z")
    if len(text) == MOST:
        raise Full("a text has at most 200 letters")


def refuse_cut(text):
    """Raises NoPlace where the text has no letter that can be cut."""
    if len(text) == 0:
        raise NoPlace("a text of no letters has none to cut")


def refuse_no_place(place, text):
    """Raises NoPlace of what is no place of the text."""
    if not is_number_to(place, len(text) - 1):
        raise NoPlace("a place is a whole number from 0 to below the text's length")
