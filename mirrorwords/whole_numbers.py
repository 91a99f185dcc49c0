"""Whole numbers, such as places and arms are."""


def is_number_to(thing, most):
    """True of a whole number from 0 to the most one; False of anything else."""
    # Python counts True and False among its whole numbers, the program does not.
    return isinstance(thing, int) and not isinstance(thing, bool) and 0 <= thing <= most
