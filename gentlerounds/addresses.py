"""Addresses: the name of a house and a path in it, and their texts."""

from gentlerounds.errors import InvalidAddress, InvalidSeeds
from gentlerounds.names import is_name, is_path
from gentlerounds.values import is_tuple

LONGEST_PATH = 40
MOST_SEEDS = 8


def is_place(value):
    """Tell whether a value is a path that an address may have."""
    return is_path(value) and len(value) <= LONGEST_PATH


def is_address(value):
    """Tell whether a value is an address."""
    return is_tuple(value, 2, 2) and is_name(value[0]) and is_place(value[1])


def are_addresses(value, most):
    """Tell whether a value is a tuple of so many addresses at most."""
    return is_tuple(value, 0, most) and all(is_address(one) for one in value)


def check_address(given):
    """Raise InvalidAddress for what is no address."""
    if not is_address(given):
        raise InvalidAddress(given)


def check_seeds(given):
    """Raise InvalidSeeds for what is no tuple of addresses that may be passed."""
    if not is_tuple(given, 0, MOST_SEEDS):
        raise InvalidSeeds(None)
    for index, address in enumerate(given):
        if not is_address(address):
            raise InvalidSeeds(index)


def address_text(address):
    """Return the text of an address."""
    check_address(address)
    return "".join(address)


def address_of(text):
    """Return the address that a string tells; None for what is no address's text."""
    house, slash, rest = text.partition("/")
    address = (house, slash + rest)
    return address if is_address(address) else None


def read_address(text):
    """Return the address that a text tells."""
    address = address_of(text) if isinstance(text, str) else None
    if address is None:
        raise InvalidAddress(text)
    return address
