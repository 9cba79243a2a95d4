"""Parts alone: where their rows lie, which short rows do not fit, which words serve."""

from reachrows.books import (
    FAR, JUMPS, LOAD, LONG, REACH, SHORT, SPAN, WORD,
    check_machine, check_part, is_ascending, is_jump_row,
)
from reachrows.errors import NoForms


def is_forms(part, thing):
    """Whether the thing is forms of the part."""
    if not isinstance(thing, list) or not all([is_jump_row(part, row) for row in thing]):
        return False
    return is_ascending(thing)


def check_forms(part, forms):
    """Raise NoForms if the forms are none of the part."""
    if not is_forms(part, forms):
        raise NoForms("these are no forms of the part")


def check_formed(part, machine, forms):
    """Raise the error for the first of the three that there is not."""
    check_part(part)
    check_machine(machine)
    check_forms(part, forms)


def row_size(row, machine, address, is_short):
    """The bytes of a row that begins at the address."""
    if row[0] in JUMPS:
        return machine[SHORT] if is_short else machine[LONG]
    if row[0] == "far":
        return machine[FAR]
    if row[0] == "load":
        return machine[LOAD]
    if row[0] == "word":
        return machine[WORD]
    if row[0] == "align":
        return -address % row[1]
    return row[1]


def addresses_of(part, machine, forms):
    """What places returns, for a part, a machine and forms that are known to be such."""
    addresses = [0]
    for number, row in enumerate(part):
        address = addresses[-1]
        addresses.append(address + row_size(row, machine, address, number in forms))
    return addresses


def distance(addresses, row, other):
    """The distance of two rows."""
    return abs(addresses[row] - addresses[other])


def server(part, addresses, span, load):
    """The "word" that serves the load, or None."""
    wanted = ("word", part[load][1])
    words = [number for number, row in enumerate(part) if row == wanted]
    away = [(distance(addresses, load, word), word) for word in words]
    near = [pair for pair in away if pair[0] <= span]
    # Of two at one distance the pair with the lesser row is the lesser pair.
    return min(near)[1] if near else None


def unfit_rows(part, machine, forms):
    """What misfits returns, for a part, a machine and forms that are known to be such."""
    addresses = addresses_of(part, machine, forms)
    return [row for row in forms if distance(addresses, row, part[row][1]) > machine[REACH]]


def servers(part, machine, forms):
    """What served returns, for a part, a machine and forms that are known to be such."""
    addresses = addresses_of(part, machine, forms)
    loads = [number for number, row in enumerate(part) if row[0] == "load"]
    return {load: server(part, addresses, machine[SPAN], load) for load in loads}


def places(part, machine, forms):
    """The list of the addresses of all rows, and of the part's end."""
    check_formed(part, machine, forms)
    return addresses_of(part, machine, forms)


def misfits(part, machine, forms):
    """The ascending list of all short rows that do not fit."""
    check_formed(part, machine, forms)
    return unfit_rows(part, machine, forms)


def served(part, machine, forms):
    """A dict from each load to the "word" that serves it, or None."""
    check_formed(part, machine, forms)
    return servers(part, machine, forms)
