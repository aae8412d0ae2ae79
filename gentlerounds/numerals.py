"""Numerals: the numbers of lines, as they are written."""

DIGITS = "0123456789"
LONGEST_NUMERAL = 12


def number_of(word):
    """Return the number that a numeral tells; None for what is no numeral."""
    if not 1 <= len(word) <= LONGEST_NUMERAL or not all(sign in DIGITS for sign in word):
        return None
    if word[0] == "0" and len(word) > 1:
        return None
    return int(word)
