"""Numbers in the words of texts, as they are written and not otherwise."""

from quickbythen.exact import is_less, lowest


def integer_in(word):
    """The integer that a word is, None if it is written otherwise."""
    figures = word[1:] if word.startswith("-") else word
    if figures == "" or not all([sign in "0123456789" for sign in figures]):
        return None
    if figures.startswith("0") and word != "0":
        return None
    return int(word)


def number_in(word):
    """The integer from 0 on that a word is, None if it is none."""
    found = integer_in(word)
    if found is None or found < 0:
        return None
    return found


def count_in(word):
    """The integer from 1 on that a word is, None if it is none."""
    found = integer_in(word)
    if found is None or found < 1:
        return None
    return found


def fraction_in(word):
    """The fraction that a word is, None if it is written otherwise."""
    parts = word.split("/")
    top = integer_in(parts[0])
    if top is None or len(parts) > 2:
        return None
    if len(parts) == 1:
        return (top, 1)
    bottom = integer_in(parts[1])
    if bottom is None or bottom < 2 or lowest(top, bottom) != (top, bottom):
        return None
    return (top, bottom)


def moment_in(word):
    """The fraction from 0 on that a word is, None if it is none."""
    found = fraction_in(word)
    if found is None or found[0] < 0:
        return None
    return found


def moments_in(words):
    """The fractions from 0 on that words are, None if one of them is none."""
    found = [moment_in(word) for word in words]
    if None in found:
        return None
    return found


def is_rising(moments, moment):
    """Whether a moment is behind the last one of some, or 0 if there are none."""
    if not moments:
        return moment[0] == 0
    return is_less(moments[-1], moment)
