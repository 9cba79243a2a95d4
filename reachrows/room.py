"""Room that is kept for edits."""

from reachrows.aligned import laid_size
from reachrows.books import check_book, check_machine, is_book, with_part
from reachrows.errors import NoEdits
from reachrows.islands import is_part_number, sizes_of

MOST_EDITS = 6


def is_edit(book, thing):
    """Whether the thing is an edit with which the book stays one."""
    if not isinstance(thing, tuple) or len(thing) != 2 or not is_part_number(book, thing[0]):
        return False
    return is_book(with_part(book, thing[0], thing[1]))


def check_edits(book, edits):
    """Raise NoEdits if these are no edits of the book, or too many."""
    if not isinstance(edits, list) or len(edits) > MOST_EDITS:
        raise NoEdits(f"this is no list of at most {MOST_EDITS} edits")
    if not all([is_edit(book, edit) for edit in edits]):
        raise NoEdits("with one of these edits the book is none")


def kept_room(book, machine, edits):
    """What reserve returns, for arguments that are known to be such."""
    sizes = sizes_of(book, machine)
    room = [0] * len(book)
    reasons = [None] * len(book)
    for number, (p, part) in enumerate(edits):
        more = laid_size(part, machine) - sizes[p]
        if more > room[p]:
            room[p] = more
            reasons[p] = number
    return (room, reasons)


def reserve(book, machine, edits):
    """(room, reasons): for each part the greatest growth by an edit, and the number of the first such edit, or None."""
    check_book(book)
    check_machine(machine)
    check_edits(book, edits)
    return kept_room(book, machine, edits)
