"""What the document says of shelves, told again: worked out anew from the edits that have not been taken back."""

from tests.oracles import least_told, size_told
from tests.support import put


class ShelfTold:
    """A shelf of which the history is kept, and nothing else."""

    def __init__(self, book, machine, order, edits):
        self.book, self.machine, self.order = book, machine, list(order)
        self.reserved, self.edits, self.told = list(edits), [], []

    def size(self, part):
        """The size of the part as laid."""
        return size_told(part, self.machine, least_told(part, self.machine))

    def as_book(self):
        """The book with all edits."""
        book = self.book
        for p, part in self.edits:
            book = put(book, p, part)
        return book

    def occupied(self):
        """The greatest size that each part has had, with the edits that were reserved for."""
        tried = list(enumerate(self.book)) + self.reserved + self.edits
        return [max(self.size(part) for p, part in tried if p == number) for number in range(len(self.book))]

    def firsts(self):
        """The addresses of all parts, counted upwards."""
        firsts, occupied, address = {}, self.occupied(), 0
        for number in self.order:
            while address % 16 != 0:
                address += 1
            firsts[number] = address
            address += occupied[number]
        return [firsts[number] for number in range(len(self.book))]

    def turn(self, edits):
        """Go over to these edits, and tell the moves."""
        before = self.firsts()
        self.edits = edits
        for number, first in enumerate(self.firsts()):
            if first != before[number]:
                self.told.append((number, before[number], first))

    def edit(self, p, part):
        """Put the part in the place of part p."""
        self.turn(self.edits + [(p, part)])

    def undo(self):
        """Take the last edit back."""
        self.turn(self.edits[:-1])

    def state(self):
        """All that makes two shelves equal."""
        return self.as_book(), self.machine, self.order, self.occupied()
