"""What the document says of cells and patches, told again address by address."""

import itertools

from tests.oracles import (
    bytes_of, extents_told, least_told, lost_told, unserved_told, ways_told, with_islands_told, word_for,
)

CELL_WORDS = ("plain", "plain", "stop", "jump", "branch", "branch", "far", "island", "island", "load", "word")

# Behind all addresses that the small images have in them.
FAR_OFF = 120


def cells_told(book, machine, order, room, islands):
    """The cells of the book, row by row."""
    whole = with_islands_told(book, islands)
    if lost_told(book, machine, order, room, islands):
        return None
    firsts = [first for first, _ in extents_told(whole, machine, order, room)]
    ways = [ways_told(book, machine, order, room, islands, goal) for goal in range(len(book))]
    table = {}

    def place(number, row):
        """The address of a row of a part."""
        return firsts[number] + bytes_of(whole[number], machine, least_told(whole[number], machine))[1][row]

    def far(number, goal):
        """Where a "far" row goes at once."""
        way = ways[goal][number]
        if way is None:
            return None
        if not way:
            return firsts[goal]
        posts = [at for at, to in islands if at == way[0]]
        rows = len(book[way[0]])
        return [place(way[0], rows + at) for at in range(len(posts)) if whole[way[0]][rows + at][1] == goal][0]

    for number, part in enumerate(whole):
        forms = least_told(part, machine)
        line, begins = bytes_of(part, machine, forms)
        if unserved_told(part, machine, forms):
            return None
        for at, row in enumerate(part):
            numbers = {
                "plain": lambda: row[2], "stop": lambda: 0, "word": lambda: row[1], "far": lambda: far(number, row[1]),
                "load": lambda: place(number, word_for(part, begins, machine[6], at)),
                "jump": lambda: place(number, row[1]), "branch": lambda: place(number, row[1]),
            }
            if row[0] != "align":
                word = "island" if at >= len(book[number]) else row[0]
                table[firsts[number] + begins[at]] = (word, line.count(at), numbers[row[0]]())
    return table


def found_told(table, where):
    """The address of the cell that is found from here, or None."""
    behind = [address for address in table if address >= where]
    return min(behind) if behind else None


def run_told(table, where, total, limit):
    """The run, cell by cell."""
    steps, islands = 0, []
    while steps < limit:
        at = found_told(table, where)
        if at is None or at in islands:
            return "lost", total, steps
        word, size, number = table[at]
        if word == "word" or word == "island" and number is None:
            return "lost", total, steps
        if word == "load" and table.get(number, ("none",))[0] != "word":
            return "lost", total, steps
        if word == "island":
            islands.append(at)
            where = number
            continue
        steps, islands = steps + 1, []
        if word == "stop":
            return "stop", total, steps
        if word in ("plain", "load"):
            total += number if word == "plain" else table[number][2]
            total -= total // 65536 * 65536
        goes_on = word in ("plain", "load") or word == "branch" and total // 2 * 2 == total
        where = at + size if goes_on else number
    return "limit", total, steps


def addresses_told(table, at):
    """(addresses, endless): all addresses near by on which runs from at depend, and whether there is no end."""
    addresses, endless, end = set(), False, max([FAR_OFF, *table])
    walks, walked = [at], set()
    while walks:
        where = walks.pop()
        if where in walked:
            continue
        walked.add(where)
        while where not in table and where < end:
            addresses.add(where)
            where += 1
        addresses.add(where)
        if where not in table:
            endless = True
            continue
        word, size, number = table[where]
        if word == "load":
            addresses.add(number)
            if table.get(number, ("none",))[0] != "word":
                continue
        if word in ("plain", "load", "branch"):
            walks.append(where + size)
        if word in ("jump", "branch", "far") or word == "island" and number is not None:
            walks.append(number)
    return addresses, endless


def depends_told(table, at):
    """The ranges of these addresses, one by one."""
    addresses, endless = addresses_told(table, at)
    ranges = []
    for address in sorted(addresses):
        if ranges and ranges[-1][1] == address - 1:
            ranges[-1] = (ranges[-1][0], address)
        else:
            ranges.append((address, address))
    if endless:
        ranges[-1] = (ranges[-1][0], None)
    return ranges


def patch_told(before, after):
    """The writes, address by address."""
    writes = []
    for address in range(max([0, *before, *after]) + 1):
        if address in after and (address not in before or before[address] != after[address]):
            writes.append((address, after[address]))
        elif address in before and address not in after:
            writes.append((address, None))
    return writes


def images_told(table, writes):
    """The images behind each number of the writes."""
    images = [dict(table)]
    for address, cell in writes:
        image = {other: images[-1][other] for other in images[-1] if other != address}
        if cell is not None:
            image[address] = cell
        images.append(image)
    return images


def is_alike(image, other, at):
    """Whether the image is alike the other one on its addresses from at."""
    addresses, endless = addresses_told(other, at)
    everywhere = range(max(addresses), FAR_OFF) if endless else ()
    return all(image.get(address) == other.get(address) for address in itertools.chain(addresses, everywhere))


def is_safe_told(before, after, at, writes):
    """Whether the writes are safe from at, in this order."""
    return all(is_alike(image, before, at) or is_alike(image, after, at) for image in images_told(before, writes))


def safe_orders_told(before, after, at):
    """All orders of the writes that are safe from at, of all that there are."""
    orders = itertools.permutations(patch_told(before, after))
    return [list(writes) for writes in orders if is_safe_told(before, after, at, writes)]


def parted_told(before, after, at):
    """The writes on which runs in after alone depend, in both, and all others."""
    parts = [], [], []
    told, told_after = addresses_told(before, at), addresses_told(after, at)
    for address, cell in patch_told(before, after):
        on_before, on_after = [
            address in addresses or endless and address > max(addresses) for addresses, endless in (told, told_after)
        ]
        parts[2 if not on_after else 1 if on_before else 0].append((address, cell))
    return parts


def safe_told(before, after, at):
    """The writes in the order that the document tells, or None."""
    new, both, others = parted_told(before, after, at)
    return new + both + others if len(both) < 2 else None


def clashes_told(before, after, at):
    """The addresses of the patch on which runs in both depend."""
    return [address for address, _ in parted_told(before, after, at)[1]]


def some_cell(numbers, most=24):
    """Some cell whose number is most often that of a cell near by."""
    word = numbers.one_of(CELL_WORDS)
    number = None if word == "island" and numbers.below(4) == 0 else numbers.below(most)
    return word, 1 + numbers.below(4), number


def some_image(numbers, most=12):
    """Some image of few cells."""
    table = {}
    address = numbers.below(3)
    for _ in range(numbers.below(most)):
        table[address] = some_cell(numbers)
        # Cells lie one behind the other, with gaps, or within one another.
        address += max(1, table[address][1] + numbers.below(6) - 2) if numbers.below(3) == 0 else table[address][1]
    for address, cell in list(table.items()):
        if cell[0] == "load":
            words = [at for at, other in table.items() if other[0] == "word"]
            table[address] = (cell[0], cell[1], numbers.one_of(words + words + [cell[2]]))
    return table


def changed_image(numbers, table, many):
    """The image with some cells changed, taken away or put in."""
    table = dict(table)
    for _ in range(many):
        address = numbers.one_of(list(table) + [numbers.below(30)])
        kind = numbers.below(3)
        if kind == 0:
            table.pop(address, None)
        else:
            table[address] = some_cell(numbers)
    return table
