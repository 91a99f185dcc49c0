"""A text parted into as few mirror words as can be."""

from mirrorwords.words import reads_alike, refuse_no_text


def fewest(text):
    """As few mirror words as can be, one behind the other, of which each is as long as those ahead of it allow."""
    refuse_no_text(text)
    needed = words_needed(text)
    parted = []
    start = 0
    while start < len(text):
        stop = max([end for end in ends_from(text, start) if needed[end] == needed[start] - 1])
        parted.append(text[start:stop])
        start = stop
    return parted


def words_needed(text):
    """For each place, and the one behind the text, how few mirror words the text from there on is parted into."""
    needed = [0] * (len(text) + 1)
    for start in reversed(range(len(text))):
        needed[start] = 1 + min([needed[end] for end in ends_from(text, start)])
    return needed


def ends_from(text, start):
    """The places right behind the mirror words that begin at one place, the shortest word's first."""
    return [end for end in range(start + 1, len(text) + 1) if reads_alike(text[start:end])]
