"""Live books: books whose cells are written one by one when a door is switched, while they run."""

from reachrows.books import check_number
from reachrows.cells import cells_of, check_begun
from reachrows.doors import check_twin, twin_of
from reachrows.errors import NoChange, NoLive
from reachrows.patches import safe_writes, written


def live_cells(book, machine, order, room, islands):
    """The cells of the book; raise NoLive if there are none."""
    table = cells_of(book, machine, order, room, islands)
    if table is None:
        raise NoLive("with these the book has no cells")
    return table


class Live:
    """A book with a machine, an order that begins with part 0, room, islands and the image of its cells."""

    def __init__(self, book, machine, order, room, islands):
        check_begun(book, machine, order, room, islands)
        self.table = live_cells(book, machine, order, room, islands)
        self.book = book
        self.machine = machine
        self.order = list(order)
        self.room = list(room)
        self.islands = list(islands)
        self.past = []
        self.told = []

    def switch(self, p, part):
        """Become the twin with the part, by the door of part p."""
        check_twin(self.book, self.machine, p, part)
        book = twin_of(self.book, p, part)
        order = self.order + [len(self.book)]
        room = self.room + [0]
        table = live_cells(book, self.machine, order, room, self.islands)
        self.past.append((self.book, self.order, self.room, self.table))
        self.turn(book, order, room, table)

    def undo(self):
        """Take the last switch back that has not been taken back."""
        if not self.past:
            raise NoChange("there is nothing to undo")
        book, order, room, table = self.past.pop()
        self.turn(book, order, room, table)

    def turn(self, book, order, room, table):
        """Become this book with this order and room, and write its cells one by one."""
        writes = safe_writes(self.table, table, 0)
        self.told.extend(writes)
        self.table = written(self.table, writes)
        self.book = book
        self.order = order
        self.room = room

    def as_book(self):
        """The book."""
        return self.book

    def image(self):
        """The image of the cells."""
        return dict(self.table)

    def wrote(self, k):
        """The list of all writes behind the first k of them."""
        check_number(k, len(self.told))
        return self.told[k:]

    def __len__(self):
        return len(self.past)

    def __eq__(self, other):
        return (
            isinstance(other, Live) and self.book == other.book and self.machine == other.machine
            and self.order == other.order and self.room == other.room and self.islands == other.islands
        )
