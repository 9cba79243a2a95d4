"""Words that are put into parts, the cheapest ones that serve all loads, and what is to be said against others."""

from reachrows.aligned import size_of, sublists
from reachrows.books import (
    GOING_ON, HIGHEST, JUMPS,
    are_pairs, check_machine, check_part, is_part, is_within, jump_rows,
)
from reachrows.errors import NoPlaced, NoSize
from reachrows.growing import check_even_part, growth, is_chain
from reachrows.places import servers

MOST_PAIRS = 5
GREATEST_SIZE = 1000000


def renumbered(row, table):
    """The row, its goal renumbered by the table."""
    if row[0] in JUMPS:
        return (row[0], table[row[1]])
    return row


def put_words(part, placed):
    """What with_words returns, for what is known to be placed; more than a part can hold makes no part."""
    rows = []
    table = []
    for number, row in enumerate(part):
        table.append(len(rows))
        rows.append(row)
        values = [value for spot, value in placed if spot == number + 1]
        if values and row[0] in GOING_ON:
            # The row behind the words is an old one, so that its number is found in the table, too.
            rows.append(("jump", number + 1))
        rows.extend([("word", value) for value in values])
    return (tuple([renumbered(row, table) for row in rows]), table)


def check_placed(part, placed):
    """Raise NoPlaced if this is not placed, or would make a part that is none."""
    if not are_pairs(placed, ((1, len(part)), (0, HIGHEST))):
        raise NoPlaced("this is not placed in the part")
    if not is_part(put_words(part, placed)[0]):
        raise NoPlaced("with these words the part is none")


def check_pairs(part, pairs):
    """Raise NoPlaced if these are no pairs of the part, or too many."""
    check_placed(part, pairs)
    if len(pairs) > MOST_PAIRS:
        raise NoPlaced(f"there are more than {MOST_PAIRS} pairs")


def check_size(size):
    """Raise NoSize if the size is none."""
    if not is_within(size, 0, GREATEST_SIZE):
        raise NoSize(f"this is no integer from 0 to {GREATEST_SIZE}")


def unserved(part, machine, forms):
    """The ascending list of all loads that no "word" serves."""
    return [load for load, word in servers(part, machine, forms).items() if word is None]


def is_no(part, machine, size, thing):
    """Whether the thing is a no, for the part with the rival's words."""
    if not isinstance(thing, tuple) or len(thing) not in (2, 3) or not is_chain(part, machine, thing[1]):
        return False
    forms = [row for row in jump_rows(part) if row not in thing[1]]
    if len(thing) == 2:
        return thing[0] == "great" and size_of(part, machine, forms) >= size
    if thing[0] != "lost" or not is_within(thing[2], 0, len(part) - 1):
        return False
    return thing[2] in unserved(part, machine, forms)


def with_words(part, placed):
    """(part, table): the part with the words put in, and the list of the new numbers of all old rows."""
    check_part(part)
    check_placed(part, placed)
    return put_words(part, placed)


def cheapest_words(part, machine, pairs):
    """(size, placed): the first list of some of the pairs with which all loads are served, and its size; or None."""
    check_even_part(part)
    check_machine(machine)
    check_pairs(part, pairs)
    found = []
    for placed in sublists(pairs):
        rows = put_words(part, placed)[0]
        forms = growth(rows, machine)[0]
        if not unserved(rows, machine, forms):
            found.append((size_of(rows, machine, forms), len(placed), placed))
    if not found:
        return None
    size, _, placed = min(found)
    return (size, placed)


def no_words(part, machine, rival, size):
    """A no against the rival and the size, with the chain that grown returns, or None."""
    check_even_part(part)
    check_machine(machine)
    check_placed(part, rival)
    check_size(size)
    rows = put_words(part, rival)[0]
    forms, chain = growth(rows, machine)
    loads = unserved(rows, machine, forms)
    if loads:
        return ("lost", chain, loads[0])
    if size_of(rows, machine, forms) >= size:
        return ("great", chain)
    return None


def shows_no(part, machine, rival, size, thing):
    """Whether the thing is a no against the rival and the size, with any chain."""
    check_even_part(part)
    check_machine(machine)
    check_placed(part, rival)
    check_size(size)
    return is_no(put_words(part, rival)[0], machine, size, thing)
