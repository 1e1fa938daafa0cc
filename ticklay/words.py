"""Integers written as words."""

FIGURES = "0123456789"
MOST_FIGURES = 9


def integer_of(word):
    """Return the integer that a word tells, or None if it tells none."""
    if not 1 <= len(word) <= MOST_FIGURES or not all([sign in FIGURES for sign in word]):
        return None
    if len(word) > 1 and word[0] == "0":
        return None
    return int(word)


def integers_of(word):
    """Return the tuple of integers that a word tells, with commas between them, or None."""
    numbers = [integer_of(piece) for piece in word.split(",")]
    if None in numbers:
        return None
    return tuple(numbers)
