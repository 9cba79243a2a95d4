"""Books laid out as cells by their addresses, and the run of cells by addresses alone."""

from reachrows.aligned import laid_forms
from reachrows.books import (
    HIGHEST, JUMPS, LEAP, MOST_STEPS,
    check_book, check_machine, check_number,
)
from reachrows.errors import NoOrder
from reachrows.images import HIGHEST_ADDRESS, check_image, first_at, is_word
from reachrows.islands import check_islands, check_order, check_room, put_islands, spread, ways_over
from reachrows.places import addresses_of, servers


def check_begun(book, machine, order, room, islands):
    """Raise the error for the first of the five that there is not, the order being one that begins with part 0."""
    check_book(book)
    check_machine(machine)
    check_order(book, order)
    if order[0] != 0:
        raise NoOrder("this order does not begin with part 0")
    check_room(book, room)
    check_islands(book, islands)


def lay_out(parts, machine, forms, order, room):
    """(spans, lines): the (first, end) of each part, and the addresses of its rows and of the end behind them."""
    lines = [addresses_of(part, machine, short) for part, short in zip(parts, forms)]
    spans = spread([line[-1] for line in lines], order, room)
    return (spans, [[first + address for address in line] for line, (first, end) in zip(lines, spans)])


def at_once(way, goal, posts, spans):
    """The address to which a "far" row to the goal goes at once by this way, or None."""
    if way is None:
        return None
    return posts[(way[0], goal)] if way else spans[goal][0]


def far_addresses(machine, islands, posts, spans):
    """For each part a list with, for each goal, the address to which its "far" rows go at once, or None."""
    parts = list(range(len(spans)))
    ways = [ways_over(spans, machine[LEAP], islands, goal) for goal in parts]
    return [[at_once(ways[goal][part], goal, posts, spans) for goal in parts] for part in parts]


def word_addresses(part, machine, forms, line):
    """A dict from each load that is served to the address of the "word" that serves it."""
    words = servers(part, machine, forms)
    return {load: line[word] for load, word in words.items() if word is not None}


def number_of(row, line, word, fars):
    """The number of a row's cell, or None if it is a "far" row that is lost, or a load that no word serves."""
    if row[0] in JUMPS:
        return line[row[1]]
    if row[0] == "far":
        return fars[row[1]]
    if row[0] == "load":
        return word
    if row[0] == "plain":
        return row[2]
    return row[1] if row[0] == "word" else 0


def part_cells(part, line, words, fars):
    """A dict from the addresses of a part's rows to their cells, the words being those of the rows."""
    found = {}
    for number, row in enumerate(part):
        if row[0] != "align":
            size = line[number + 1] - line[number]
            found[line[number]] = (row[0], size, number_of(row, line, words.get(number), fars))
    return found


def cells_of(book, machine, order, room, islands):
    """What cells returns, for arguments that are known to be such."""
    parts = put_islands(book, islands)
    forms = [laid_forms(part, machine) for part in parts]
    spans, lines = lay_out(parts, machine, forms, order, room)
    # The same row may stand among those of the book's part, all of which lie ahead of the islands.
    posts = {(part, goal): lines[part][parts[part].index(("far", goal), len(book[part]))] for part, goal in islands}
    fars = far_addresses(machine, islands, posts, spans)
    table = {}
    for number, part in enumerate(parts):
        words = word_addresses(part, machine, forms[number], lines[number])
        table.update(part_cells(part, lines[number], words, fars[number]))
    for post in posts.values():
        table[post] = ("island",) + table[post][1:]
    if any([cell[2] is None and cell[0] != "island" for cell in table.values()]):
        return None
    return table


def total_behind(table, cell, total):
    """The total behind the cell."""
    word, _, number = cell
    if word == "plain":
        return (total + number) % (HIGHEST + 1)
    if word == "load":
        return (total + table[number][2]) % (HIGHEST + 1)
    return total


def next_address(at, cell, total):
    """The address from which the next cell is looked for, behind a cell at this one that does not stop."""
    word, size, number = cell
    if word in ("jump", "far") or (word == "branch" and total % 2 == 1):
        return number
    return at + size


def landing(table, addresses, where):
    """The address of the next cell that is counted, looked for from here, or None if the run is lost ahead of it."""
    passed = {}
    at = first_at(addresses, where)
    while at is not None and table[at][0] == "island":
        if at in passed or table[at][2] is None:
            return None
        passed[at] = True
        at = first_at(addresses, table[at][2])
    if at is None or table[at][0] == "word":
        return None
    if table[at][0] == "load" and not is_word(table, table[at][2]):
        return None
    return at


def run_image(table, where, total, limit):
    """What run_from returns, for arguments that are known to be such."""
    addresses = sorted(table)
    known = {}
    steps = 0
    while steps < limit:
        if where not in known:
            known[where] = landing(table, addresses, where)
        at = known[where]
        if at is None:
            return ("lost", total, steps)
        steps += 1
        if table[at][0] == "stop":
            return ("stop", total, steps)
        total = total_behind(table, table[at], total)
        where = next_address(at, table[at], total)
    return ("limit", total, steps)


def cells(book, machine, order, room, islands):
    """A dict from the address of each row to its cell, or None if something is lost or a load is not served."""
    check_begun(book, machine, order, room, islands)
    return cells_of(book, machine, order, room, islands)


def run_cells(table, total, limit):
    """Run an image from its first cell on: (end, total, steps)."""
    check_image(table)
    check_number(total, HIGHEST)
    check_number(limit, MOST_STEPS)
    return run_image(table, 0, total, limit)


def run_from(table, at, total, limit):
    """Run an image from the first cell that is not below the address: (end, total, steps)."""
    check_image(table)
    check_number(at, HIGHEST_ADDRESS)
    check_number(total, HIGHEST)
    check_number(limit, MOST_STEPS)
    return run_image(table, at, total, limit)
