"""All examples of the document."""

import unittest

from reachrows.aligned import bar, helps, least
from reachrows.books import run_book
from reachrows.cells import cells, run_cells
from reachrows.doors import has_door, twin
from reachrows.growing import grown
from reachrows.islands import lost, ways
from reachrows.lives import Live
from reachrows.orders import best_order
from reachrows.patches import clashes, safe_patch
from reachrows.places import misfits, places
from reachrows.shelves import Shelf
from reachrows.words import cheapest_words, no_words


class TestExamples(unittest.TestCase):

    def test_run_book(self):
        book = (
            (("plain", 1, 3), ("branch", 3), ("stop", 1), ("load", 4), ("stop", 1), ("word", 4)),
        )
        self.assertEqual(
            [run_book(book, 0, 10), run_book(book, 1, 10), run_book(book, 0, 2)],
            [("stop", 7, 4), ("stop", 4, 3), ("limit", 3, 2)],
        )

    def test_places_and_misfits(self):
        machine = (1, 9, 3, 2, 60, 2, 20, 4)
        part = (("branch", 2), ("plain", 9, 1), ("stop", 1))
        self.assertEqual(
            [places(part, machine, [0]), misfits(part, machine, [0]), places(part, machine, [])],
            [[0, 1, 10, 11], [0], [0, 3, 12, 13]],
        )

    def test_grown(self):
        machine = (1, 9, 3, 2, 60, 2, 20, 4)
        part = (("branch", 3), ("plain", 8, 0), ("jump", 0), ("stop", 1))
        self.assertEqual(grown(part, machine), ([], [0, 2]))

    def test_least_helps_and_bar(self):
        machine = (1, 13, 3, 2, 60, 2, 20, 4)
        part = (("branch", 4), ("branch", 4), ("plain", 9, 1), ("align", 16), ("stop", 1))
        self.assertEqual(
            [least(part, machine), helps(part, machine), bar(part, machine, [0, 1])],
            [[1], [(0, 1)], 0],
        )

    def test_cheapest_words(self):
        machine = (1, 9, 3, 2, 60, 2, 20, 4)
        part = (("load", 7), ("plain", 30, 0), ("stop", 1))
        self.assertEqual(cheapest_words(part, machine, [(1, 7), (3, 7)]), (38, [(1, 7)]))

    def test_no_words(self):
        machine = (1, 9, 3, 2, 60, 2, 20, 4)
        part = (("load", 7), ("plain", 30, 0), ("stop", 1))
        self.assertEqual(
            [
                no_words(part, machine, [(3, 7)], 38), no_words(part, machine, [(1, 7)], 38),
                no_words(part, machine, [(1, 7)], 39),
            ],
            [("lost", [], 0), ("great", []), None],
        )

    def test_lost_and_ways(self):
        machine = (1, 9, 3, 2, 70, 2, 20, 4)
        book = ((("far", 2),), (("stop", 50),), (("stop", 4),))
        self.assertEqual(
            [
                lost(book, machine, [0, 1, 2], [0, 0, 0], []),
                ways(book, machine, [0, 1, 2], [0, 0, 0], [(1, 2)], 2),
            ],
            [[(0, 2)], ([1], [], [])],
        )

    def test_best_order(self):
        machine = (1, 9, 3, 2, 60, 2, 20, 4)
        book = ((("far", 2),), (("stop", 50),), (("stop", 4),))
        self.assertEqual(best_order(book, machine, [0, 0, 0], [(1, 2)]), ([0, 2, 1], []))

    def test_a_shelf(self):
        machine = (1, 9, 3, 2, 60, 2, 20, 4)
        book = ((("far", 2),), (("stop", 50),), (("stop", 4),))
        shelf = Shelf(book, machine, [0, 1, 2], [(1, (("stop", 60),))])
        self.assertIs(shelf.edit(1, (("stop", 60),)), None)
        self.assertIs(shelf.edit(1, (("stop", 70),)), None)
        self.assertEqual(
            [shelf.firsts(), shelf.moves(0), len(shelf), shelf.undo(), shelf.firsts(), shelf.moves(1)],
            [[0, 16, 96], [(2, 80, 96)], 2, None, [0, 16, 80], [(2, 96, 80)]],
        )

    def test_cells(self):
        machine = (1, 9, 3, 2, 70, 2, 20, 4)
        book = ((("far", 2),), (("stop", 50),), (("stop", 4),))
        self.assertEqual(
            [
                cells(book, machine, [0, 1, 2], [0, 0, 0], [(1, 2)]),
                cells(book, machine, [0, 1, 2], [0, 0, 0], []),
            ],
            [{0: ("far", 2, 66), 16: ("stop", 50, 0), 66: ("island", 2, 80), 80: ("stop", 4, 0)}, None],
        )

    def test_run_cells(self):
        machine = (1, 9, 3, 2, 70, 2, 20, 4)
        book = ((("far", 2),), (("stop", 50),), (("stop", 4),))
        self.assertEqual(
            [run_cells(cells(book, machine, [0, 1, 2], [0, 0, 0], [(1, 2)]), 5, 10), run_book(book, 5, 10)],
            [("stop", 5, 2), ("stop", 5, 2)],
        )

    def test_clashes_and_safe_patch(self):
        before = {0: ("plain", 2, 3), 4: ("branch", 1, 0), 5: ("stop", 1, 0)}
        after = {0: ("plain", 2, 3), 4: ("jump", 1, 8), 8: ("stop", 1, 0)}
        self.assertEqual(
            [clashes(before, after, 0), safe_patch(before, after, 0)],
            [[4], [(8, ("stop", 1, 0)), (4, ("jump", 1, 8)), (5, None)]],
        )

    def test_has_door_and_twin(self):
        machine = (1, 9, 3, 2, 60, 2, 20, 4)
        book = ((("plain", 2, 0), ("stop", 9)),)
        self.assertEqual(
            [
                has_door(book[0], machine), has_door((("plain", 2, 1), ("stop", 9)), machine),
                twin(book, machine, 0, (("stop", 4),)),
            ],
            [True, False, ((("far", 1), ("stop", 9)), (("stop", 4),))],
        )

    def test_a_live_book(self):
        machine = (1, 9, 3, 2, 60, 2, 20, 4)
        book = ((("plain", 2, 0), ("stop", 9)),)
        live = Live(book, machine, [0], [0], [])
        self.assertIs(live.switch(0, (("stop", 4),)), None)
        self.assertEqual(
            [live.image(), live.wrote(0), live.undo(), live.wrote(2), live.image()],
            [
                {0: ("far", 2, 16), 2: ("stop", 9, 0), 16: ("stop", 4, 0)},
                [(16, ("stop", 4, 0)), (0, ("far", 2, 16))],
                None,
                [(0, ("plain", 2, 0)), (16, None)],
                {0: ("plain", 2, 0), 2: ("stop", 9, 0)},
            ],
        )


if __name__ == "__main__":
    unittest.main()
