"""How far a text reads alike to both sides of each of its middles."""

from mirrorwords.words import refuse_no_text


def arms(text):
    """The arm of each middle of the text, in order."""
    refuse_no_text(text)
    # A text of no letters asks for a range up to -1, which is empty as it should be.
    return [arm_at(text, middle) for middle in range(2 * len(text) - 1)]


def arm_at(text, middle):
    """How far the text reads alike to both sides of one middle, counted from 0."""
    # Even middles are letters, odd ones lie between two letters; these are the neighbours of both kinds.
    left = (middle - 1) // 2
    right = middle // 2 + 1
    arm = 0
    while left >= 0 and right < len(text) and text[left] == text[right]:
        arm += 1
        left -= 1
        right += 1
    return arm
