"""[16]: shelves behind each of many calls, against what is worked out anew from their histories."""

import unittest

from reachrows.errors import NoChange
from reachrows.shelves import Shelf
from tests.oracles import some_machine
from tests.shelf_told import ShelfTold
from tests.support import Numbers, refusal
from tests.test_extents import some_book, some_order
from tests.test_reserve import some_edit


def some_shelf(numbers):
    """(shelf, told, edits): some shelf, what is told of it, and the edits that were reserved for."""
    many = 1 + numbers.below(5)
    book, machine = some_book(numbers, many), some_machine(numbers)
    order = list(some_order(numbers, many))
    edits = [some_edit(numbers, book) for _ in range(numbers.below(7))]
    return Shelf(book, machine, order, edits), ShelfTold(book, machine, order, edits), edits


def some_change(numbers, edits, book):
    """Some reserved edit, some other one, or None for an undo."""
    kind = numbers.below(5)
    if kind < 2:
        return None
    return numbers.one_of(edits) if kind == 2 and edits else some_edit(numbers, book, size=40)


class TestHistories(unittest.TestCase):

    def check(self, shelf, told):
        """Hold all that the shelf tells against what is told of it."""
        self.assertEqual(shelf.as_book(), told.as_book())
        self.assertEqual(shelf.firsts(), told.firsts())
        self.assertEqual(len(shelf), len(told.edits))
        for n in range(len(told.told) + 1):
            self.assertEqual(shelf.moves(n), told.told[n:])

    def change(self, shelf, told, change):
        """Make the change, in both."""
        if change is not None:
            self.assertIs(shelf.edit(*change), None)
            told.edit(*change)
        elif told.edits:
            self.assertIs(shelf.undo(), None)
            told.undo()
        else:
            self.assertIs(refusal(shelf.undo), NoChange)

    def test_many_calls_of_many_shelves(self):
        numbers = Numbers(160)
        moves = undone = 0
        for _ in range(150):
            shelf, told, edits = some_shelf(numbers)
            self.check(shelf, told)
            for _ in range(numbers.below(14)):
                self.change(shelf, told, some_change(numbers, edits, shelf.as_book()))
                self.check(shelf, told)
                undone += len(shelf) > 0
            moves += len(told.told)
        self.assertGreater(min(moves, undone), 200)

    def test_equality_behind_each_call(self):
        numbers = Numbers(161)
        equal = {True: 0, False: 0}
        for _ in range(40):
            shelf, told, edits = some_shelf(numbers)
            past = []
            for _ in range(8):
                change = some_change(numbers, edits, shelf.as_book())
                self.change(shelf, told, change)
                # Another shelf on which the same edits, not taken back, are made in turn.
                other = Shelf(told.book, told.machine, told.order, edits)
                again = ShelfTold(told.book, told.machine, told.order, edits)
                for p, part in told.edits:
                    other.edit(p, part)
                    again.edit(p, part)
                self.assertIs(shelf == other, True)
                past.append((other, again.state()))
                for one, state in past:
                    self.assertIs(shelf == one, told.state() == state)
                    self.assertIs(one != shelf, told.state() != state)
                    equal[told.state() == state] += 1
        self.assertGreater(min(equal.values()), 200, equal)

    def test_all_edits_taken_back(self):
        numbers = Numbers(162)
        for _ in range(60):
            shelf, told, edits = some_shelf(numbers)
            new = Shelf(told.book, told.machine, told.order, edits)
            for _ in range(6):
                self.change(shelf, told, some_change(numbers, edits, shelf.as_book()))
            while len(shelf) > 0:
                shelf.undo()
            self.assertIs(shelf == new, True)
            self.assertEqual((shelf.as_book(), shelf.firsts()), (new.as_book(), new.firsts()))


if __name__ == "__main__":
    unittest.main()
