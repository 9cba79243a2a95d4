"""[23]: live books behind each of many calls, against what is worked out anew from their histories."""

import unittest

from reachrows.books import is_book
from reachrows.cells import cells
from reachrows.errors import NoChange, NoDoor, NoLive, NoTwin
from reachrows.lives import Live
from tests.cells_told import cells_told
from tests.live_told import LiveTold
from tests.support import Numbers, put, refusal
from tests.test_cells import some_laid_book
from tests.test_doors import shifted
from tests.test_extents import some_book


def with_doors(numbers, book, machine):
    """The book with doors in some of its parts."""
    for p in range(len(book)):
        changed = put(book, p, (("plain", machine[3], 0),) + shifted(book[p]))
        if numbers.below(4) > 0 and is_book(changed):
            book = changed
    return book


def some_live(numbers):
    """(live, told): some live book, and what is told of it."""
    while True:
        book, machine, order, room, islands = some_laid_book(numbers, 1 + numbers.below(5))
        machine = machine[:4] + (machine[4] + 60,) + machine[5:]
        book = with_doors(numbers, book, machine)
        if cells(book, machine, order, room, islands) is not None:
            given = book, machine, order, room, islands
            return Live(*given), LiveTold(*given)


def some_switch(numbers, book, machine):
    """Some part of the book, and some part to which to switch it."""
    part = some_book(numbers, len(book))[0]
    # Most loads have their words.
    if numbers.below(3) > 0:
        part = tuple(("plain", 1, row[1]) if row[0] == "load" else row for row in part)
    if numbers.below(3) == 0:
        part = (("plain", machine[3], 0),) + shifted(part)
    return numbers.below(len(book)), part


class TestHistories(unittest.TestCase):

    def check(self, live, told):
        """Hold all that the live book tells against what is told of it."""
        self.assertEqual(live.as_book(), told.as_book())
        self.assertEqual(live.image(), told.image())
        self.assertEqual(len(live), len(told.switches))
        for k in range(len(told.told) + 1):
            self.assertEqual(live.wrote(k), told.told[k:])

    def switch(self, live, told, p, part):
        """Switch, in both, and tell whether it could be."""
        book = told.as_book()
        if book[p][0] != ("plain", told.machine[3], 0):
            error = NoDoor
        elif not is_book(told.laid(told.switches + [(p, part)])[0]):
            error = NoTwin
        else:
            error = NoLive if told.cells(told.switches + [(p, part)]) is None else None
        self.assertIs(refusal(live.switch, p, part), error)
        if error is None:
            told.switch(p, part)
        return error

    def undo(self, live, told):
        """Undo, in both."""
        self.assertIs(refusal(live.undo), None if told.switches else NoChange)
        if told.switches:
            told.undo()

    def test_many_calls_of_many_live_books(self):
        numbers = Numbers(230)
        kinds = {None: 0, NoDoor: 0, NoTwin: 0, NoLive: 0, "undone": 0, "two": 0}
        for _ in range(150):
            live, told = some_live(numbers)
            self.check(live, told)
            for _ in range(numbers.below(9)):
                if numbers.below(4) > 0:
                    kinds[self.switch(live, told, *some_switch(numbers, told.as_book(), told.machine))] += 1
                else:
                    kinds["undone"] += len(live) > 0
                    self.undo(live, told)
                kinds["two"] += len(live) > 1
                self.check(live, told)
        self.assertGreater(min(kinds.values()), 5, kinds)

    def test_equality_behind_each_call(self):
        numbers = Numbers(231)
        equal = {True: 0, False: 0}
        for _ in range(60):
            live, told = some_live(numbers)
            past = []
            for _ in range(6):
                if numbers.below(3) > 0:
                    self.switch(live, told, *some_switch(numbers, told.as_book(), told.machine))
                else:
                    self.undo(live, told)
                # Another live book, made with what is there now.
                book, order, room = told.laid(told.switches)
                past.append((Live(book, told.machine, order, room, told.islands), told.state()))
                for other, state in past:
                    self.assertIs(live == other, told.state() == state)
                    self.assertIs(other != live, told.state() != state)
                    equal[told.state() == state] += 1
        self.assertGreater(min(equal.values()), 100, equal)

    def test_the_image_is_that_of_the_cells(self):
        numbers = Numbers(232)
        for _ in range(100):
            live, told = some_live(numbers)
            for _ in range(5):
                self.switch(live, told, *some_switch(numbers, told.as_book(), told.machine))
                book, order, room = told.laid(told.switches)
                self.assertEqual(live.image(), cells(book, told.machine, order, room, told.islands))
            first, order, room = told.first
            while len(live) > 0:
                live.undo()
            self.assertEqual(live.image(), cells_told(first, told.machine, order, room, told.islands))
            self.assertEqual(live.as_book(), first)


if __name__ == "__main__":
    unittest.main()
