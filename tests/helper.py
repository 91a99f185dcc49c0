"""What several test files need: texts of many kinds, things that are none, and how a refusal is told."""

from itertools import product

from mirrorwords import errors

LETTERS = "abcdefghijklmnopqrstuvwxyz"


def all_texts(letters, most):
    """All texts of these letters with at most so many of them, the text of none first."""
    return ["".join(row) for many in range(most + 1) for row in product(letters, repeat=many)]


def same_from_behind(text):
    """A plain reading from both ends, letter by letter."""
    for place in range(len(text)):
        if text[place] != text[len(text) - 1 - place]:
            return False
    return True


def unlike_text(many, step, kinds):
    """A text of so many letters that repeats itself little; the same for the same numbers."""
    letters = []
    state = step
    for _ in range(many):
        state = (state * 1103515245 + 12345) % 2 ** 31
        letters.append(LETTERS[(state >> 16) % kinds])
    return "".join(letters)


def mirrored(half, middle=""):
    """The mirror word of a first half and what stands in its middle."""
    return half + middle + half[::-1]


def letter_arm(text, place):
    """The farthest that the text reads alike around the letter at a place."""
    farthest = 0
    for far in range(len(text)):
        if place - far >= 0 and place + far < len(text) and same_from_behind(text[place - far:place + far + 1]):
            farthest = far
    return farthest


def gap_arm(text, place):
    """The farthest that the text reads alike around the gap before the letter at a place."""
    farthest = 0
    for far in range(len(text) + 1):
        if place - far >= 0 and place + far <= len(text) and same_from_behind(text[place - far:place + far]):
            farthest = far
    return farthest


def arms_by_letters(text):
    """All arms by a plain reading to both sides of each middle."""
    told = []
    for place in range(len(text)):
        if place > 0:
            told.append(gap_arm(text, place))
        told.append(letter_arm(text, place))
    return told


class Plain:
    """An object that is no text."""


# Strings that are no texts: signs other than a to z in each place, and letters above 200.
NO_TEXT_STRINGS = (
    [sign for sign in map(chr, range(32, 127)) if sign not in LETTERS]
    + ["\n", "\t", "\r\n", " a", "a ", "a a", "aba\n", "\naba", "ab\nba", "a\ta", "\ta\t", "Aba", "abA", "aBa"]
    + ["ABBA", "a1a", "1", "121", "a-a", "a.", ".a", "a`a", "a{a", "@", "[a["]
    + ["a" * 201, "ab" * 101, "a" * 100 + "b" + "a" * 100, "a" * 400, "a" * 199 + " ", "a" * 199 + "Z", " " * 201]
)


def other_kinds():
    """Things of other kinds than strings, new ones for each asker."""
    return [
        None, True, False, 0, 1, -1, 97, 200, 10 ** 30, 1.5, b"", b"aba",
        [], ["a"], ["a", "b", "a"], [["a"]], (), ("a",), ("a", "b", "a"), {}, {"a": 1}, {"aba": "aba"},
        {"a"}, frozenset("a"), range(3), Plain(), Plain, len, iter("aba"),
    ]


def refusal_of(deed, *given):
    """The class of what was raised, itself and not one above it; None if nothing was."""
    try:
        deed(*given)
    except errors.MirrorError as refusal:
        return refusal.__class__
    return None
