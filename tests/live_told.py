"""What the document says of live books, told again: all is worked out anew from the switches not taken back."""

from tests.cells_told import cells_told, safe_told
from tests.support import put


class LiveTold:
    """A live book of which the history is kept, and nothing else."""

    def __init__(self, book, machine, order, room, islands):
        self.first, self.machine, self.islands = (book, list(order), list(room)), machine, list(islands)
        self.switches, self.told = [], []

    def laid(self, switches):
        """(book, order, room) with these switches."""
        book, order, room = self.first
        for p, part in switches:
            through = (("far", len(book)),) + book[p][1:]
            book, order, room = put(book, p, through) + (part,), order + [len(book)], room + [0]
        return book, order, room

    def as_book(self):
        """The book with all switches."""
        return self.laid(self.switches)[0]

    def cells(self, switches):
        """The cells with these switches, or None."""
        book, order, room = self.laid(switches)
        return cells_told(book, self.machine, order, room, self.islands)

    def image(self):
        """The cells with all switches."""
        return self.cells(self.switches)

    def turn(self, switches):
        """Go over to these switches, and tell the writes."""
        self.told.extend(safe_told(self.image(), self.cells(switches), 0))
        self.switches = switches

    def switch(self, p, part):
        """Switch part p to the other part."""
        self.turn(self.switches + [(p, part)])

    def undo(self):
        """Take the last switch back."""
        self.turn(self.switches[:-1])

    def state(self):
        """All that makes two live books equal."""
        return self.laid(self.switches) + (self.machine, self.islands)
