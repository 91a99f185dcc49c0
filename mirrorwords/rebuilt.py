"""Which lists are arms, and the least text that has the arms of a list."""

from mirrorwords.errors import BadArms, NoText
from mirrorwords.middles import arm_at
from mirrorwords.whole_numbers import is_number_to
from mirrorwords.words import MOST

LETTERS = "abcdefghijklmnopqrstuvwxyz"


def is_arms(thing):
    """True of a list of arms, whatever text has them; False of anything else."""
    return isinstance(thing, list) and are_middles(len(thing)) and all(
        [is_number_to(arm, room_at(middle, len(thing))) for middle, arm in enumerate(thing)])


def are_middles(many):
    """Whether a text has so many middles: one of n letters has 2n - 1 of them, one of none has none."""
    return many == 0 or (many % 2 == 1 and many < 2 * MOST)


def room_at(middle, many):
    """The longest arm that a middle has room for, within a text of so many middles."""
    # Letters lie two middles apart, so the way to the nearer end has half as many letters as middles.
    return min(middle + 1, many - middle) // 2


def least_text(arms):
    """The least text, in the order of texts, that has these arms."""
    if not is_arms(arms):
        raise BadArms("arms are whole numbers, one for each middle of a text, none beyond the text's ends")
    text = ""
    for _ in range((len(arms) + 1) // 2):
        text += next_letter(text, arms)
    # Where some text has the arms, this one has them: what they ask of a later letter that they tie to an earlier one
    # follows from what they ask of the letters before it. So one look at the whole text tells whether any text does.
    if any([arm_at(text, middle) != arm for middle, arm in enumerate(arms)]):
        raise NoText("no text has these arms")
    return text


def next_letter(text, arms):
    """The least letter that the arms let stand right behind the text."""
    place = len(text)
    barred = []
    for middle in range(place, 2 * place):
        # Seen from this middle, the new letter's place lies across from one in the text.
        across = text[middle - place]
        # The first place to the middle's right that its arm does not cover.
        stop = middle // 2 + 1 + arms[middle]
        if stop > place:
            return across
        if stop == place:
            barred.append(across)
    # Some letter is always left. A place whose letter is not tied bars at most one letter more than it lies places
    # behind the last such place, so the 22nd letter would come at place 211 or later, and no text is that long.
    return min([letter for letter in LETTERS if letter not in barred])
