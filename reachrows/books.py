"""Machines, parts and books, and the run of a book by its rows' names."""

from reachrows.errors import NoBook, NoMachine, NoNumber, NoPart

SHORT = 0
REACH = 1
LONG = 2
FAR = 3
LEAP = 4
LOAD = 5
SPAN = 6
WORD = 7

MACHINE_BOUNDS = ((1, 9), (0, 999), (2, 20), (1, 20), (0, 9999), (1, 9), (0, 999), (1, 16))

ROW_BOUNDS = {
    "plain": ((1, 99), (0, 999)),
    "stop": ((1, 99),),
    "jump": ((0, 19),),
    "branch": ((0, 19),),
    "far": ((0, 4),),
    "load": ((0, 65535),),
    "word": ((0, 65535),),
    "align": ((2, 16),),
}

HIGHEST = 65535
MOST_STEPS = 1000
MOST_ROWS = 20
MOST_PARTS = 5
MOST_JUMPS_BESIDE_ALIGN = 6
MULTIPLES = (2, 4, 8, 16)
JUMPS = ("jump", "branch")
GOING_ON = ("plain", "branch", "load", "align")


def is_within(thing, low, high):
    """Whether the thing is an integer from low to high."""
    return isinstance(thing, int) and not isinstance(thing, bool) and low <= thing <= high


def are_within(things, bounds):
    """Whether there is one thing for each (low, high) of the bounds, and each is within its own."""
    if len(things) != len(bounds):
        return False
    return all([is_within(thing, low, high) for thing, (low, high) in zip(things, bounds)])


def is_machine(thing):
    """Whether the thing is a machine."""
    if not isinstance(thing, tuple) or not are_within(thing, MACHINE_BOUNDS):
        return False
    return thing[SHORT] < thing[LONG]


def is_row(thing):
    """Whether the thing is a row of some part, whatever stands around it."""
    if not isinstance(thing, tuple) or len(thing) == 0:
        return False
    # The word may be anything, also what no dict takes as a key.
    if not isinstance(thing[0], str) or thing[0] not in ROW_BOUNDS:
        return False
    if not are_within(thing[1:], ROW_BOUNDS[thing[0]]):
        return False
    return thing[0] != "align" or thing[1] in MULTIPLES


def jump_rows(part):
    """The ascending list of the numbers of the part's "jump" and "branch" rows."""
    return [number for number, row in enumerate(part) if row[0] in JUMPS]


def is_jump_row(part, thing):
    """Whether the thing is the number of a "jump" or "branch" row of the part."""
    return is_within(thing, 0, len(part) - 1) and part[thing][0] in JUMPS


def is_ascending(members):
    """Whether each member is less than the one behind it, so that no two are the same."""
    return all([member < behind for member, behind in zip(members, members[1:])])


def are_pairs(thing, bounds):
    """Whether the thing is an ascending list of different tuples, of members that are within the bounds."""
    if not isinstance(thing, list):
        return False
    if not all([isinstance(pair, tuple) and are_within(pair, bounds) for pair in thing]):
        return False
    return is_ascending(thing)


def is_even(part):
    """Whether the part has no "align"."""
    return all([row[0] != "align" for row in part])


def goals_stand(rows):
    """Whether each goal is one of the rows, and none is a "word"."""
    goals = [rows[number][1] for number in jump_rows(rows)]
    return all([goal < len(rows) and rows[goal][0] != "word" for goal in goals])


def words_are_shunned(rows):
    """Whether no run can come to a "word", or behind the last row, by going on."""
    if rows[0][0] == "word" or rows[-1][0] in GOING_ON:
        return False
    return all([row[0] not in GOING_ON or behind[0] != "word" for row, behind in zip(rows, rows[1:])])


def is_part(thing):
    """Whether the thing is a part."""
    if not isinstance(thing, tuple) or not 1 <= len(thing) <= MOST_ROWS:
        return False
    if not all([is_row(row) for row in thing]):
        return False
    if not is_even(thing) and len(jump_rows(thing)) > MOST_JUMPS_BESIDE_ALIGN:
        return False
    return goals_stand(thing) and words_are_shunned(thing)


def far_goals(part):
    """The list of the parts to which the part's "far" rows go."""
    return [row[1] for row in part if row[0] == "far"]


def is_book(thing):
    """Whether the thing is a book."""
    if not isinstance(thing, tuple) or not 1 <= len(thing) <= MOST_PARTS:
        return False
    if not all([is_part(part) for part in thing]):
        return False
    return all([goal < len(thing) for part in thing for goal in far_goals(part)])


def with_part(book, p, part):
    """The book with the part in the place of part p; not every part makes a book."""
    return book[:p] + (part,) + book[p + 1:]


def check_part(part):
    """Raise NoPart if the part is none."""
    if not is_part(part):
        raise NoPart("this is no part")


def check_book(book):
    """Raise NoBook if the book is none."""
    if not is_book(book):
        raise NoBook("this is no book")


def check_machine(machine):
    """Raise NoMachine if the machine is none."""
    if not is_machine(machine):
        raise NoMachine("this is no machine")


def check_number(number, highest):
    """Raise NoNumber if the number is no integer from 0 to the highest."""
    if not is_within(number, 0, highest):
        raise NoNumber(f"this is no integer from 0 to {highest}")


def added(row, total):
    """The total behind the row."""
    if row[0] == "plain":
        return (total + row[2]) % (HIGHEST + 1)
    if row[0] == "load":
        return (total + row[1]) % (HIGHEST + 1)
    return total


def next_place(book, place, total):
    """The (part, row) to which the row at this one goes, which is no "stop"."""
    part, number = place
    row = book[part][number]
    if row[0] == "far":
        return (row[1], 0)
    if row[0] == "jump" or (row[0] == "branch" and total % 2 == 1):
        return (part, row[1])
    return (part, number + 1)


def run_book(book, total, limit):
    """Run the book by its rows' names: (end, total, steps)."""
    check_book(book)
    check_number(total, HIGHEST)
    check_number(limit, MOST_STEPS)
    place = (0, 0)
    steps = 0
    while steps < limit:
        row = book[place[0]][place[1]]
        if row[0] != "align":
            steps += 1
        if row[0] == "stop":
            return ("stop", total, steps)
        total = added(row, total)
        place = next_place(book, place, total)
    return ("limit", total, steps)
