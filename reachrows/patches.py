"""Patches: what runs depend on, and orders in which cells are written one by one while they run."""

from reachrows.books import check_number
from reachrows.errors import NoWrites
from reachrows.images import (
    HIGHEST_ADDRESS, MOST_CELLS,
    check_image, first_at, is_address, is_cell, onward,
)

MOST_WRITES = 600

# Behind all addresses, also those behind the last cell that there may be.
ENDLESS = 2000000000


def joined(spans):
    """The shortest ascending list of (first, last) that has just the addresses of these."""
    ranges = []
    for first, last in sorted(spans):
        if ranges and first <= ranges[-1][1] + 1:
            ranges[-1] = (ranges[-1][0], max(ranges[-1][1], last))
        else:
            ranges.append((first, last))
    return ranges


def looked_for(table, at):
    """A dict from each address from which a run from this one looks for a cell to that of the cell, or None."""
    addresses = sorted(table)
    found = {}
    waiting = [at]
    while waiting:
        where = waiting.pop()
        if where not in found:
            found[where] = first_at(addresses, where)
            if found[where] is not None:
                waiting.extend(onward(table, found[where]))
    return found


def ranges_from(table, at):
    """What depends returns, with ENDLESS for a last one that there is not."""
    found = looked_for(table, at)
    spans = [(where, ENDLESS if cell is None else cell) for where, cell in found.items()]
    come_to = [table[cell] for cell in found.values() if cell is not None]
    return joined(spans + [(number, number) for word, size, number in come_to if word == "load"])


def is_on(ranges, address):
    """Whether the address is one of the ranges'."""
    return any([first <= address <= last for first, last in ranges])


def is_write(thing):
    """Whether the thing is a write."""
    if not isinstance(thing, tuple) or len(thing) != 2 or not is_address(thing[0]):
        return False
    return thing[1] is None or is_cell(thing[1])


def written(table, writes):
    """The image behind the writes, one after the other."""
    image = dict(table)
    for address, cell in writes:
        if cell is None:
            image.pop(address, None)
        else:
            image[address] = cell
    return image


def check_writes(table, writes):
    """Raise NoWrites if these are no writes, or too many, or make an image of too many cells."""
    if not isinstance(writes, list) or len(writes) > MOST_WRITES:
        raise NoWrites(f"this is no list of at most {MOST_WRITES} writes")
    if not all([is_write(write) for write in writes]):
        raise NoWrites("one of these is no write")
    if len(written(table, writes)) > MOST_CELLS:
        raise NoWrites(f"behind these writes there are more than {MOST_CELLS} cells")


def differences(before, after):
    """What patch returns, for two images."""
    addresses = sorted({address for table in (before, after) for address in table})
    return [(address, after.get(address)) for address in addresses if before.get(address) != after.get(address)]


def parted(before, after, at):
    """(new, both, others): the writes on which runs from at in after alone depend, in both images, and all others."""
    writes = differences(before, after)
    ranges = ranges_from(before, at)
    on_after = ranges_from(after, at)
    others = [write for write in writes if not is_on(on_after, write[0])]
    needed = [write for write in writes if is_on(on_after, write[0])]
    both = [write for write in needed if is_on(ranges, write[0])]
    new = [write for write in needed if not is_on(ranges, write[0])]
    return (new, both, others)


def safe_writes(before, after, at):
    """What safe_patch returns, for two images and an address."""
    new, both, others = parted(before, after, at)
    # The one write in both ranges turns all runs at once: what they need next is there, and what they needed still.
    return new + both + others if len(both) <= 1 else None


def check_images(before, after, at):
    """Raise the error for the first of the three that there is not."""
    check_image(before)
    check_image(after)
    check_number(at, HIGHEST_ADDRESS)


def depends(table, at):
    """The shortest ascending list of ranges (first, last) of all addresses on which runs from at depend."""
    check_image(table)
    check_number(at, HIGHEST_ADDRESS)
    return [(first, None if last == ENDLESS else last) for first, last in ranges_from(table, at)]


def patched(table, writes):
    """The image behind the writes, one after the other."""
    check_image(table)
    check_writes(table, writes)
    return written(table, writes)


def patch(before, after):
    """The ascending list of the writes at the addresses where the images differ."""
    check_image(before)
    check_image(after)
    return differences(before, after)


def clashes(before, after, at):
    """The ascending list of the addresses of the patch on which runs from at in both images depend."""
    check_images(before, after, at)
    return [address for address, cell in parted(before, after, at)[1]]


def safe_patch(before, after, at):
    """The writes of the patch in an order that is safe from at, or None if there is none."""
    check_images(before, after, at)
    return safe_writes(before, after, at)
