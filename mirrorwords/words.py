"""Texts and mirror words, and the mirror words at their ends."""

from mirrorwords.errors import BadText, BadWord

MOST = 200


def is_text(thing):
    """True of up to 200 letters a to z, perhaps of none; False of anything else."""
    # The length comes first, so that a text far too long is not read through.
    return isinstance(thing, str) and len(thing) <= MOST and all("a" <= sign <= "z" for sign in thing)


def is_mirror(thing):
    """True of a text of one letter or more that reads alike from behind; False of anything else."""
    # The text of no letters reads alike too, but it is no word.
    return is_text(thing) and len(thing) > 0 and reads_alike(thing)


def reads_alike(text):
    """Whether the text is the same from behind."""
    return text == text[::-1]


def inner(word):
    """The mirror word without its first and last letter."""
    refuse_no_mirror(word)
    return word[1:-1]


def tail(word):
    """The longest shorter mirror word at the word's end; no letters for a word of one letter."""
    ends = chain(word)
    # A longer word always has one more: its last letter alone.
    if len(ends) == 1:
        return ""
    return ends[1]


def chain(word):
    """All mirror words at the word's end, the longest, the word itself, first."""
    refuse_no_mirror(word)
    return [word[start:] for start in range(len(word)) if reads_alike(word[start:])]


def longest_at_end(text):
    """The longest mirror word at the text's end; no letters for a text of none."""
    start = 0
    # This stops at the last letter at the latest, which reads alike alone.
    while not reads_alike(text[start:]):
        start += 1
    return text[start:]


def longest_at_start(text):
    """The longest mirror word at the text's start; no letters for a text of none."""
    # From behind, the text's start is its end, and a mirror word is the same.
    return longest_at_end(text[::-1])


def refuse_no_text(text):
    """Raises BadText of what is no text."""
    if not is_text(text):
        raise BadText("a text is up to 200 letters a to z")


def refuse_no_mirror(word):
    """Raises BadWord of what is no mirror word."""
    if not is_mirror(word):
        raise BadWord("a mirror word is 1 to 200 letters a to z that read alike from behind")
