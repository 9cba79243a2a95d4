"""[24]: what holds of cells, and of live books."""

import itertools
import unittest

from reachrows.books import is_book, run_book
from reachrows.cells import cells, run_cells, run_from
from reachrows.islands import lost
from reachrows.patches import depends, patched
from tests.oracles import some_machine, some_rows
from tests.support import Numbers
from tests.test_cells import some_laid_book
from tests.test_live_histories import some_live, some_switch
from tests.test_ways import some_islands

TOTALS = (0, 1, 2, 65535)
LIMITS = (0, 1, 2, 3, 7, 50, 1000)

# Kinds of rows by which runs are long.
RUN_KINDS = ("plain",) * 5 + ("branch", "branch", "far", "stop", "load", "load", "word", "align")


def with_words_or_none(part):
    """The part with a "plain" in the place of each load for which there is no word."""
    words = [row[1] for row in part if row[0] == "word"]
    return tuple(("plain", 1, row[1]) if row[0] == "load" and row[1] not in words else row for row in part)


def some_run_book(numbers, many):
    """Some book of which the runs are long."""
    while True:
        parts = [some_rows(numbers, 4 + numbers.below(9), RUN_KINDS, parts=many) for _ in range(many)]
        book = tuple(with_words_or_none(part) for part in parts)
        if is_book(book):
            return book


def some_cells(seed, many_cases):
    """(book, cells): books, and their cells with some order, room and islands, where there are such."""
    numbers = Numbers(seed)
    for _ in range(many_cases):
        many = 1 + numbers.below(5)
        book, machine, order, room, islands = some_laid_book(numbers, many)
        if numbers.below(2) == 0:
            book, machine = some_run_book(numbers, many), machine[:4] + (machine[4] * 3,) + machine[5:]
        table = cells(book, machine, order, room, islands)
        if table is not None:
            yield book, table


class TestCells(unittest.TestCase):

    def check(self, book, table):
        ends = set()
        for total in TOTALS:
            for limit in LIMITS:
                answer = run_book(book, total, limit)
                self.assertEqual(run_cells(table, total, limit), answer, (book, table, total, limit))
                self.assertEqual(run_from(table, 0, total, limit), answer)
                ends.add((answer[0], answer[2] > 3))
        return ends

    def test_run_cells_returns_what_run_book_returns(self):
        ends = [end for book, table in some_cells(250, 900) for end in self.check(book, table)]
        for end in ("stop", "limit"):
            self.assertGreater(ends.count((end, True)), 50)

    def test_with_any_order_room_and_islands(self):
        numbers = Numbers(251)
        laid = islanded = 0
        for _ in range(60):
            many = 2 + numbers.below(3)
            book, machine = some_run_book(numbers, many), some_machine(numbers, span=99)
            machine = machine[:4] + (70 + numbers.below(90),) + machine[5:]
            for others in itertools.permutations(range(1, many)):
                for _ in range(3):
                    order, room = [0] + list(others), [numbers.below(30) for _ in range(many)]
                    islands = some_islands(numbers, many, 12, numbers.below(many))
                    table = cells(book, machine, order, room, islands)
                    if table is not None:
                        laid += 1
                        islanded += lost(book, machine, order, room, []) != []
                        self.check(book, table)
        self.assertGreater(laid, 100)
        self.assertGreater(islanded, 3)

    def test_cells_never_end_as_lost_from_0(self):
        for _, table in some_cells(252, 500):
            # So wherever a run from 0 looks for a cell there is one.
            self.assertIsNot(depends(table, 0)[-1][1], None)
            for total in range(4):
                for limit in (5, 1000):
                    self.assertIn(run_cells(table, total, limit)[0], ("stop", "limit"))


class TestLiveBooks(unittest.TestCase):

    def change(self, live, numbers, told):
        """Switch the live book, if it can be, or undo a switch; and tell whether it was changed."""
        many = len(live.wrote(0))
        try:
            if numbers.below(3) > 0:
                live.switch(*some_switch(numbers, live.as_book(), told.machine))
            else:
                live.undo()
        except ValueError:
            return False
        return len(live.wrote(0)) > many

    def test_whoever_applies_the_writes_has_the_present_image(self):
        numbers = Numbers(253)
        applied = 0
        for _ in range(120):
            live, told = some_live(numbers)
            holders = [{"image": live.image(), "next": 0}]
            for _ in range(8):
                if self.change(live, numbers, told):
                    holders.append({"image": live.image(), "next": len(live.wrote(0))})
                for holder in holders:
                    # Each holder asks now and then, for all that was written since.
                    if numbers.below(2) == 0:
                        writes = live.wrote(holder["next"])
                        holder["image"] = patched(holder["image"], writes)
                        holder["next"] += len(writes)
                        applied += len(writes)
                        self.assertEqual(holder["image"], live.image())
        self.assertGreater(applied, 500)

    def test_a_run_between_two_writes_is_one_of_the_book_ahead_or_behind(self):
        numbers = Numbers(254)
        between = {True: 0, False: 0}
        for _ in range(150):
            live, told = some_live(numbers)
            for _ in range(6):
                before, image, many = live.as_book(), live.image(), len(live.wrote(0))
                if not self.change(live, numbers, told):
                    continue
                after, writes = live.as_book(), live.wrote(many)
                for number in range(len(writes) + 1):
                    held = patched(image, writes[:number])
                    for total, limit in itertools.product((0, 1, 65535), (1, 3, 60)):
                        run = run_cells(held, total, limit)
                        runs = [run_book(before, total, limit), run_book(after, total, limit)]
                        self.assertIn(run, runs)
                        between[runs[0] == runs[1]] += 1
        self.assertGreater(min(between.values()), 200, between)


if __name__ == "__main__":
    unittest.main()
