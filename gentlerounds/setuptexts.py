"""The texts of set-ups, as they are said to the console, and those of fractions."""

from gentlerounds.numerals import number_of
from gentlerounds.setups import is_setup

ROWS_APART = " ; "


def fraction_text(number):
    """Return the text of a fraction."""
    top, bottom = number
    return str(top) if bottom == 1 else f"{top}/{bottom}"


def fraction_in(word):
    """Return the pair of numbers that a word tells, None in the place of what is no number of the told form."""
    top, slash, bottom = word.partition("/")
    if not slash:
        return number_of(top), 1
    # What is whole is told without the number below, so this can not be 1.
    return number_of(top), None if bottom == "1" else number_of(bottom)


def house_in(words):
    """Return the rules that the words of a house tell; None if they are no such words."""
    limits = []
    while words[:1] == ["most"] and len(words) > 4 and words[2] == "in":
        limits.append((number_of(words[1]), number_of(words[3])))
        words = words[4:]
    if len(words) != 2 or words[0] != "open" or not all(sign in "01" for sign in words[1]):
        return None
    return tuple(limits), tuple([int(sign) for sign in words[1]])


def page_in(words):
    """Return the page that the words behind the first one of its row tell."""
    return number_of(words[0]), tuple([fraction_in(word) for word in words[1:]])


def setup_in(text):
    """Return the set-up that a text tells; None if it tells none."""
    first, *rows = [row.split(" ") for row in text.split(ROWS_APART)]
    if len(first) != 2 or first[0] != "most":
        return None
    houses = [words for words in rows if words[0] == "house"]
    pages = rows[len(houses):]
    # All houses stand ahead of all pages.
    if rows[:len(houses)] != houses or not all(words[0] == "page" and len(words) > 1 for words in pages):
        return None
    rules = [house_in(words[1:]) for words in houses]
    setup = (tuple(rules), tuple([page_in(words[1:]) for words in pages]), number_of(first[1]))
    return setup if is_setup(setup) else None
