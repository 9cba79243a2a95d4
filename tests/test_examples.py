"""The examples of the document for books and places."""

import unittest

from reachrows.books import run_book
from reachrows.places import misfits, places


class TestExamples(unittest.TestCase):

    def test_run_book(self):
        book = (
            (("plain", 1, 3), ("branch", 3), ("stop", 1), ("load", 4), ("stop", 1), ("word", 4)),
        )
        self.assertEqual(
            [run_book(book, 0, 10), run_book(book, 1, 10), run_book(book, 0, 2)],
            [("stop", 7, 4), ("stop", 4, 3), ("limit", 3, 2)],
        )

    def test_places_and_misfits(self):
        machine = (1, 9, 3, 2, 60, 2, 20, 4)
        part = (("branch", 2), ("plain", 9, 1), ("stop", 1))
        self.assertEqual(
            [places(part, machine, [0]), misfits(part, machine, [0]), places(part, machine, [])],
            [[0, 1, 10, 11], [0], [0, 3, 12, 13]],
        )


if __name__ == "__main__":
    unittest.main()
