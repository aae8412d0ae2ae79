"""The words of answers and of other events in lines."""

from gentlerounds.addresses import address_of, address_text
from gentlerounds.numerals import number_of


def words_of_event(event):
    """Return the list of the words of an event."""
    kind = event[0]
    if kind == "page":
        return [kind, str(event[1])] + [address_text(link) for link in event[2]]
    return [kind] + [address_text(address) for address in event[1:]]


def told_event(kind, words):
    """Return what the first word of an event and those behind it tell; only if they are right it is an event."""
    if kind == "page" and words:
        return (kind, number_of(words[0]), tuple([address_of(word) for word in words[1:]]))
    return (kind, *[address_of(word) for word in words])
