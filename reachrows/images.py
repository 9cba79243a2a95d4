"""Images: cells by their addresses, and how runs find the next one."""

from reachrows.books import is_within
from reachrows.errors import NoCells

WORDS = ("plain", "stop", "jump", "branch", "far", "island", "load", "word")
LEAPS = ("jump", "branch", "far", "island")
HIGHEST_ADDRESS = 1000000000
MOST_BYTES = 99
MOST_CELLS = 300


def is_cell(thing):
    """Whether the thing is a cell."""
    if not isinstance(thing, tuple) or len(thing) != 3:
        return False
    word, size, number = thing
    if word not in WORDS or not is_within(size, 1, MOST_BYTES):
        return False
    if number is None:
        return word == "island"
    return is_within(number, 0, HIGHEST_ADDRESS)


def is_address(thing):
    """Whether the thing may be the address of a cell."""
    return is_within(thing, 0, HIGHEST_ADDRESS)


def is_image(thing):
    """Whether the thing is an image."""
    if not isinstance(thing, dict) or len(thing) > MOST_CELLS:
        return False
    return all([is_address(address) and is_cell(cell) for address, cell in thing.items()])


def check_image(table):
    """Raise NoCells if the table is no image."""
    if not is_image(table):
        raise NoCells("this is no image")


def first_at(addresses, where):
    """The least of the ascending addresses that is not below where, or None."""
    low = 0
    high = len(addresses)
    while low < high:
        middle = (low + high) // 2
        if addresses[middle] < where:
            low = middle + 1
        else:
            high = middle
    return addresses[low] if low < len(addresses) else None


def is_word(table, address):
    """Whether a "word" is at the address."""
    return address in table and table[address][0] == "word"


def onward(table, at):
    """The list of all addresses from which runs that have come to the cell at this one look for the next cell."""
    word, size, number = table[at]
    if word == "load" and not is_word(table, number):
        return []
    steps = []
    if word in ("plain", "branch", "load"):
        steps.append(at + size)
    if word in LEAPS and number is not None:
        steps.append(number)
    return steps
