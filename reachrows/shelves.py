"""Shelves: books whose parts stay where they lie as long as only edits come that were reserved for."""

from reachrows.aligned import laid_size
from reachrows.books import check_book, check_machine, check_number, check_part, is_book, with_part
from reachrows.errors import NoChange
from reachrows.islands import check_order, is_part_number, sizes_of, spread
from reachrows.room import check_edits, kept_room


def check_change(book, p, part):
    """Raise the error for an edit that cannot be."""
    if not is_part_number(book, p):
        raise NoChange("this is no part's number")
    check_part(part)
    if not is_book(with_part(book, p, part)):
        raise NoChange("with this part the book is none")


class Shelf:
    """A book with a machine and an order, and the bytes that its parts occupy."""

    def __init__(self, book, machine, order, edits):
        check_book(book)
        check_machine(machine)
        check_order(book, order)
        check_edits(book, edits)
        room = kept_room(book, machine, edits)[0]
        self.book = book
        self.machine = machine
        self.order = list(order)
        self.occupied = [size + more for size, more in zip(sizes_of(book, machine), room)]
        self.past = []
        self.told = []

    def edit(self, p, part):
        """Put the part in the place of part p."""
        check_change(self.book, p, part)
        occupied = list(self.occupied)
        occupied[p] = max(occupied[p], laid_size(part, self.machine))
        self.past.append((self.book, self.occupied))
        self.turn(with_part(self.book, p, part), occupied)

    def undo(self):
        """Take the last edit back that has not been taken back."""
        if not self.past:
            raise NoChange("there is nothing to undo")
        book, occupied = self.past.pop()
        self.turn(book, occupied)

    def turn(self, book, occupied):
        """Become this book, whose parts occupy these bytes, and tell which parts move."""
        before = self.firsts()
        self.book = book
        self.occupied = occupied
        steps = list(zip(before, self.firsts()))
        self.told.extend([(part, was, now) for part, (was, now) in enumerate(steps) if was != now])

    def as_book(self):
        """The book."""
        return self.book

    def firsts(self):
        """The list of the addresses of all parts' first rows."""
        spans = spread(self.occupied, self.order, [0] * len(self.book))
        return [first for first, end in spans]

    def moves(self, n):
        """The list of all moves (part, address before, address after) behind the first n of them."""
        check_number(n, len(self.told))
        return self.told[n:]

    def __len__(self):
        return len(self.past)

    def __eq__(self, other):
        return (
            isinstance(other, Shelf) and self.book == other.book and self.machine == other.machine
            and self.order == other.order and self.occupied == other.occupied
        )
