"""Doors: parts whose first row may become a "far" row to another part behind all parts."""

from reachrows.books import FAR, check_book, check_machine, check_part, is_book, with_part
from reachrows.errors import NoDoor, NoTwin
from reachrows.islands import is_part_number


def opens(part, machine):
    """What has_door returns, for a part and a machine."""
    return part[0] == ("plain", machine[FAR], 0)


def twin_of(book, p, part):
    """What twin returns, for a part p with a door; not every part makes a book."""
    through = (("far", len(book)),) + book[p][1:]
    return with_part(book, p, through) + (part,)


def check_twin(book, machine, p, part):
    """Raise the error for the p or the part with which there is no twin of the book."""
    if not is_part_number(book, p) or not opens(book[p], machine):
        raise NoDoor("this is no number of a part with a door")
    if not is_book(twin_of(book, p, part)):
        raise NoTwin("with this part there is no twin")


def has_door(part, machine):
    """Whether the part has a door on the machine."""
    check_part(part)
    check_machine(machine)
    return opens(part, machine)


def twin(book, machine, p, part):
    """The book with part p's door made a "far" row to the other part, which stands behind all parts."""
    check_book(book)
    check_machine(machine)
    check_twin(book, machine, p, part)
    return twin_of(book, p, part)
