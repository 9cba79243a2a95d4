"""Within the limits that the document names no call takes noticeably long."""

import time
import unittest

from reachrows.aligned import helps, laid, least, shows_help
from reachrows.errors import NoPlaced
from reachrows.growing import grown, shows_chain
from reachrows.islands import extents, fewest_islands, lost, shows_levels, ways
from reachrows.orders import best_order
from reachrows.room import reserve
from reachrows.shelves import Shelf
from reachrows.words import cheapest_words, no_words, shows_no, with_words
from tests.support import MACHINE, machine_with
from tests.test_growing import CASCADE, CASCADE_MACHINE

# Each call takes a few thousandths of a second; the bound is far above, for machines that are busy.
MOST_SECONDS = 1

STOP = ("stop", 1)
ALIGNED = (("align", 2),) * 13 + (("branch", 0),) * 6 + (STOP,)
FULL = (("align", 2),) * 7 + (("branch", 0),) * 6 + (("far", 4),)
BOOK = (FULL,) * 5
ORDER = [0, 1, 2, 3, 4]
ROOM = [0, 1, 2, 3, 4]
PAIRS = [(0, 4), (1, 4), (2, 4), (3, 3), (3, 4), (4, 4)]
LEAPING = machine_with(leap=85)


class TestSpeed(unittest.TestCase):

    def check(self, call, *given):
        begin = time.perf_counter()
        answer = call(*given)
        with self.subTest(call.__name__):
            self.assertLess(time.perf_counter() - begin, MOST_SECONDS)
        return answer

    def test_parts_of_twenty_rows(self):
        chain = self.check(grown, CASCADE, CASCADE_MACHINE)[1]
        self.assertEqual(len(chain), 17)
        self.assertIs(self.check(shows_chain, CASCADE, CASCADE_MACHINE, chain), True)
        self.check(shows_chain, CASCADE, CASCADE_MACHINE, chain * 117)
        self.check(laid, CASCADE, CASCADE_MACHINE)
        self.check(laid, (("jump", 0),) * 20, machine_with(reach=9))

    def test_all_forms_of_six_rows(self):
        self.check(least, ALIGNED, MACHINE)
        self.check(laid, ALIGNED, MACHINE)
        self.check(helps, ALIGNED, machine_with(reach=15))
        self.check(shows_help, ALIGNED, MACHINE, 13, 18, [13, 14, 15, 16, 17, 18])

    def test_five_pairs(self):
        part = tuple(("branch", row + 3) for row in range(12)) + (("load", 1), STOP, STOP)
        pairs = [(15, value) for value in range(5)]
        self.assertIsNotNone(self.check(cheapest_words, part, machine_with(reach=4, span=99), pairs))
        self.check(cheapest_words, part, machine_with(reach=4, span=0), pairs)

    def test_lists_of_two_thousand_words(self):
        for values in (1, 2000):
            pairs = [(1, value) for value in range(values)]
            for call, more in ((with_words, ()), (no_words, (0,)), (shows_no, (0, None))):
                given = ((STOP,), pairs) if call is with_words else ((STOP,), MACHINE, pairs) + more
                try:
                    self.check(call, *given)
                except NoPlaced:
                    self.assertEqual(values, 2000)

    def test_five_parts_and_six_pairs(self):
        given = (BOOK, LEAPING, ORDER, ROOM)
        self.check(extents, *given)
        self.check(ways, *given, PAIRS, 4)
        self.check(shows_levels, *given, PAIRS, 4, (0,) * 5)
        self.check(lost, *given, PAIRS)
        self.check(fewest_islands, *given, PAIRS)
        self.check(fewest_islands, BOOK, machine_with(leap=0), ORDER, ROOM, PAIRS)

    def test_all_orders_and_all_lists_of_six_pairs(self):
        book = tuple(FULL[:12] + tuple(("far", goal) for goal in range(5)) for _ in range(5))
        self.assertIsNone(self.check(best_order, book, machine_with(leap=0), ROOM, PAIRS))
        self.check(best_order, book, LEAPING, ROOM, PAIRS)

    def test_six_edits(self):
        self.check(reserve, BOOK, LEAPING, [(part, ALIGNED) for part in (0, 1, 2, 3, 4, 0)])

    def test_many_edits_and_undos(self):
        shelf = self.check(Shelf, BOOK, LEAPING, ORDER, [(part, ALIGNED) for part in (0, 1, 2, 3, 4, 0)])

        def changes():
            for turn in range(300):
                shelf.edit(turn % 5, (("stop", 1 + turn % 99),) * 20)
                if turn % 3 == 0:
                    shelf.undo()

        self.check(changes)
        self.check(len, shelf)
        for n in (0, len(shelf.moves(0))):
            self.check(shelf.moves, n)
        self.check(shelf.undo)
        self.check(shelf.edit, 0, ALIGNED)
        self.check(shelf.firsts)
        self.check(shelf.__eq__, shelf)


if __name__ == "__main__":
    unittest.main()
