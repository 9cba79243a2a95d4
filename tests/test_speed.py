"""Within the limits that the document names no call takes noticeably long."""

import time
import unittest

from reachrows.aligned import helps, laid, least, shows_help
from reachrows.cells import cells, run_cells, run_from
from reachrows.errors import NoPlaced
from reachrows.growing import grown, shows_chain
from reachrows.islands import extents, fewest_islands, lost, shows_levels, ways
from reachrows.lives import Live
from reachrows.orders import best_order
from reachrows.patches import clashes, depends, patch, patched, safe_patch
from reachrows.room import reserve
from reachrows.shelves import Shelf
from reachrows.words import cheapest_words, no_words, shows_no, with_words
from tests.support import MACHINE, machine_with
from tests.test_growing import CASCADE, CASCADE_MACHINE

# Each call takes a few thousandths of a second; the bound is far above, for machines that are busy.
MOST_SECONDS = 1

STOP = ("stop", 1)
ALIGNED = (("align", 2),) * 13 + (("branch", 0),) * 6 + (STOP,)
FULL = (("align", 2),) * 7 + (("branch", 0),) * 6 + (("far", 4),)
BOOK = (FULL,) * 5
ORDER = [0, 1, 2, 3, 4]
ROOM = [0, 1, 2, 3, 4]
PAIRS = [(0, 4), (1, 4), (2, 4), (3, 3), (3, 4), (4, 4)]
LEAPING = machine_with(leap=85)


class TestSpeed(unittest.TestCase):

    def check(self, call, *given):
        begin = time.perf_counter()
        answer = call(*given)
        with self.subTest(call.__name__):
            self.assertLess(time.perf_counter() - begin, MOST_SECONDS)
        return answer

    def test_parts_of_twenty_rows(self):
        chain = self.check(grown, CASCADE, CASCADE_MACHINE)[1]
        self.assertEqual(len(chain), 17)
        self.assertIs(self.check(shows_chain, CASCADE, CASCADE_MACHINE, chain), True)
        self.check(shows_chain, CASCADE, CASCADE_MACHINE, chain * 117)
        self.check(laid, CASCADE, CASCADE_MACHINE)
        self.check(laid, (("jump", 0),) * 20, machine_with(reach=9))

    def test_all_forms_of_six_rows(self):
        self.check(least, ALIGNED, MACHINE)
        self.check(laid, ALIGNED, MACHINE)
        self.check(helps, ALIGNED, machine_with(reach=15))
        self.check(shows_help, ALIGNED, MACHINE, 13, 18, [13, 14, 15, 16, 17, 18])

    def test_five_pairs(self):
        part = tuple(("branch", row + 3) for row in range(12)) + (("load", 1), STOP, STOP)
        pairs = [(15, value) for value in range(5)]
        self.assertIsNotNone(self.check(cheapest_words, part, machine_with(reach=4, span=99), pairs))
        self.check(cheapest_words, part, machine_with(reach=4, span=0), pairs)

    def test_lists_of_two_thousand_words(self):
        for values in (1, 2000):
            pairs = [(1, value) for value in range(values)]
            for call, more in ((with_words, ()), (no_words, (0,)), (shows_no, (0, None))):
                given = ((STOP,), pairs) if call is with_words else ((STOP,), MACHINE, pairs) + more
                try:
                    self.check(call, *given)
                except NoPlaced:
                    self.assertEqual(values, 2000)

    def test_five_parts_and_six_pairs(self):
        given = (BOOK, LEAPING, ORDER, ROOM)
        self.check(extents, *given)
        self.check(ways, *given, PAIRS, 4)
        self.check(shows_levels, *given, PAIRS, 4, (0,) * 5)
        self.check(lost, *given, PAIRS)
        self.check(fewest_islands, *given, PAIRS)
        self.check(fewest_islands, BOOK, machine_with(leap=0), ORDER, ROOM, PAIRS)

    def test_all_orders_and_all_lists_of_six_pairs(self):
        book = tuple(FULL[:12] + tuple(("far", goal) for goal in range(5)) for _ in range(5))
        self.assertIsNone(self.check(best_order, book, machine_with(leap=0), ROOM, PAIRS))
        self.check(best_order, book, LEAPING, ROOM, PAIRS)

    def test_six_edits(self):
        self.check(reserve, BOOK, LEAPING, [(part, ALIGNED) for part in (0, 1, 2, 3, 4, 0)])

    def test_many_edits_and_undos(self):
        shelf = self.check(Shelf, BOOK, LEAPING, ORDER, [(part, ALIGNED) for part in (0, 1, 2, 3, 4, 0)])

        def changes():
            for turn in range(300):
                shelf.edit(turn % 5, (("stop", 1 + turn % 99),) * 20)
                if turn % 3 == 0:
                    shelf.undo()

        self.check(changes)
        self.check(len, shelf)
        for n in (0, len(shelf.moves(0))):
            self.check(shelf.moves, n)
        self.check(shelf.undo)
        self.check(shelf.edit, 0, ALIGNED)
        self.check(shelf.firsts)
        self.check(shelf.__eq__, shelf)

    def test_cells_of_five_parts_of_twenty_rows(self):
        self.assertIsNotNone(self.check(cells, BOOK, machine_with(leap=9999), ORDER, ROOM, []))
        part = (("align", 2),) * 2 + (("branch", 0),) * 6 + (("far", 4),) * 7
        pairs = [(part, goal) for part in range(5) for goal in range(5)]
        table = self.check(cells, (part,) * 5, machine_with(leap=100), ORDER, ROOM, pairs)
        self.check(run_cells, table, 1, 1000)

    def test_runs_of_a_thousand_steps(self):
        ring = {3 * number: ("plain", 3, 7) for number in range(299)}
        ring[897] = ("jump", 1, 0)
        self.assertEqual(self.check(run_cells, ring, 0, 1000)[0], "limit")
        # Between any two steps the run goes by all the islands there may be.
        chain = {number: ("island", 1, number + 1) for number in range(299)}
        chain[299] = ("jump", 1, 0)
        self.assertEqual(self.check(run_cells, chain, 0, 1000), ("limit", 0, 1000))
        self.assertEqual(self.check(run_from, chain, 150, 0, 1000), ("limit", 0, 1000))
        chain = {number: ("island", 1, number + 1) for number in range(150)}
        chain.update({number: ("branch", 1, number % 7) for number in range(150, 299)})
        chain[299] = ("jump", 1, 0)
        self.assertEqual(self.check(run_cells, chain, 0, 1000), ("limit", 0, 1000))
        self.assertEqual(self.check(run_cells, chain, 1, 1000), ("limit", 1, 1000))

    def test_images_of_three_hundred_cells(self):
        before = {10 * number: ("branch", 5, 10 * (number * 7 % 300) + 3) for number in range(300)}
        after = {10 * number + 5: ("branch", 5, 10 * (number * 11 % 300)) for number in range(300)}
        self.assertEqual(len(self.check(patch, before, after)), 600)
        for at in (0, 1500, 9999):
            self.check(depends, before, at)
            self.check(depends, after, at)
            self.check(clashes, before, after, at)
            self.check(safe_patch, before, after, at)
        loads = {20 * number: ("load", 5, 20 * number + 7) for number in range(150)}
        loads.update({20 * number + 7: ("word", 1, number) for number in range(150)})
        self.check(depends, loads, 0)
        self.check(safe_patch, loads, {number + 1: loads[number] for number in loads}, 0)

    def test_six_hundred_writes(self):
        writes = [(number, ("stop", 1, 0)) for number in range(300)] + [(number, None) for number in range(300)]
        self.assertEqual(self.check(patched, {}, writes), {})

    def test_switches_of_a_live_book(self):
        door = (("plain", 2, 0),)
        part = door + (("align", 2),) * 6 + (("branch", 0),) * 6 + (("plain", 1, 1),) * 6 + (STOP,)
        live = self.check(Live, (part,), machine_with(leap=9999), [0], [0], [])
        for _ in range(20):
            for p in range(4):
                self.check(live.switch, p, part)
            for _ in range(4):
                self.check(live.undo)
        self.check(live.wrote, 0)
        self.check(live.image)


if __name__ == "__main__":
    unittest.main()
