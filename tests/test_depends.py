"""[19]: depends."""

import unittest

from reachrows.cells import run_from
from reachrows.errors import NoCells, NoNumber
from reachrows.patches import depends
from tests.cells_told import addresses_told, changed_image, depends_told, some_cell, some_image
from tests.support import Numbers, is_integer, odd_values, refusal
from tests.test_run_cells import BAD_IMAGES, HIGHEST, STOP


class TestDepends(unittest.TestCase):

    def check(self, table, at, answer):
        with self.subTest(table=table, at=at):
            self.assertEqual(depends(table, at), answer)

    def test_the_answer_is_a_list_of_tuples(self):
        answer = depends({0: ("plain", 2, 0)}, 0)
        self.assertIs(type(answer), list)
        self.assertEqual(answer, [(0, 0), (2, None)])
        self.assertEqual([type(one) for one in answer], [tuple, tuple])
        self.assertEqual([type(address) for one in answer for address in one], [int, int, int, type(None)])

    def test_no_cell_at_all(self):
        for at in (0, 1, 7, HIGHEST):
            self.check({}, at, [(at, None)])

    def test_one_cell(self):
        self.check({0: STOP}, 0, [(0, 0)])
        self.check({5: STOP}, 0, [(0, 5)])
        self.check({5: STOP}, 3, [(3, 5)])
        self.check({5: STOP}, 5, [(5, 5)])
        self.check({5: STOP}, 6, [(6, None)])
        self.check({5: ("stop", 9, 7)}, 2, [(2, 5)])

    def test_what_is_looked_through(self):
        self.check({0: ("plain", 2, 0), 5: STOP}, 0, [(0, 0), (2, 5)])
        self.check({0: ("plain", 1, 0), 5: STOP}, 0, [(0, 5)])
        self.check({0: ("plain", 9, 0), 5: STOP, 9: STOP}, 0, [(0, 0), (9, 9)])
        self.check({0: ("jump", 1, 4), 7: STOP}, 0, [(0, 0), (4, 7)])
        self.check({0: ("jump", 1, 7), 1: STOP, 7: STOP}, 0, [(0, 0), (7, 7)])

    def test_branches_either_way(self):
        table = {0: ("branch", 1, 4), 1: STOP, 2: STOP, 4: STOP, 7: STOP}
        self.check(table, 0, [(0, 1), (4, 4)])
        self.check({**table, 0: ("branch", 2, 5)}, 0, [(0, 0), (2, 2), (5, 7)])
        self.check({**table, 0: ("branch", 5, 2)}, 0, [(0, 0), (2, 2), (5, 7)])
        # No run goes from the second branch to its goal, for its total is even there; but totals do not matter.
        self.check({0: ("branch", 1, 5), 1: ("branch", 1, 9), 2: STOP, 5: STOP, 9: STOP}, 0, [(0, 2), (5, 5), (9, 9)])

    def test_words_that_go_elsewhere(self):
        for word in ("jump", "far", "island"):
            self.check({0: (word, 1, 6), 1: STOP, 8: STOP}, 0, [(0, 0), (6, 8)])
            self.check({3: (word, 1, 0)}, 2, [(0, 3)])

    def test_numbers_of_loads(self):
        self.check({0: ("load", 1, 9), 1: STOP, 9: ("word", 1, 5)}, 0, [(0, 1), (9, 9)])
        self.check({0: ("load", 1, 2), 1: STOP, 2: ("word", 1, 5)}, 0, [(0, 2)])
        self.check({0: ("load", 1, 9), 1: ("load", 1, 9), 2: STOP, 9: ("word", 1, 5)}, 0, [(0, 2), (9, 9)])
        self.check({0: ("jump", 1, 5), 1: ("word", 1, 3), 5: ("load", 3, 1), 8: STOP}, 0, [(0, 1), (5, 5), (8, 8)])

    def test_loads_of_no_word(self):
        # The run is lost there: what is behind the load does not matter, but what is at its number does.
        self.check({0: ("load", 1, 9), 1: STOP}, 0, [(0, 0), (9, 9)])
        self.check({0: ("load", 1, 9), 1: STOP, 9: STOP}, 0, [(0, 0), (9, 9)])
        self.check({0: ("load", 1, 9), 1: STOP, 8: ("word", 4, 1), 10: ("word", 1, 1)}, 0, [(0, 0), (9, 9)])
        self.check({0: ("load", 1, 0), 1: STOP}, 0, [(0, 0)])
        self.check({0: ("load", 1, 1), 1: STOP}, 0, [(0, 1)])
        self.check({0: ("load", 1, HIGHEST), 1: STOP}, 0, [(0, 0), (HIGHEST, HIGHEST)])

    def test_numbers_of_other_cells_are_nothing(self):
        self.check({0: ("plain", 1, 50), 1: ("stop", 1, 70)}, 0, [(0, 1)])
        self.check({0: ("word", 1, 50), 1: STOP}, 0, [(0, 0)])

    def test_what_a_run_is_lost_at(self):
        self.check({2: ("word", 1, 50), 3: STOP}, 0, [(0, 2)])
        self.check({2: ("island", 1, None), 3: STOP}, 0, [(0, 2)])
        self.check({0: ("far", 1, 9), 1: STOP, 9: ("island", 1, 12), 12: ("island", 1, None)}, 0,
                   [(0, 0), (9, 9), (12, 12)])

    def test_islands_in_a_ring(self):
        self.check({0: ("island", 1, 0)}, 0, [(0, 0)])
        self.check({0: ("island", 1, 4), 4: ("island", 1, 8), 8: ("island", 1, 3), 9: STOP}, 0,
                   [(0, 0), (3, 4), (8, 8)])

    def test_cells_in_a_ring(self):
        self.check({0: ("plain", 2, 1), 2: ("branch", 2, 0), 4: ("jump", 1, 0), 5: STOP}, 0, [(0, 0), (2, 2), (4, 4)])

    def test_ranges_without_an_end(self):
        self.check({0: ("plain", 2, 0)}, 0, [(0, 0), (2, None)])
        self.check({0: ("plain", 1, 0)}, 0, [(0, None)])
        self.check({0: ("branch", 4, 9), 9: STOP}, 0, [(0, 0), (4, 9)])
        self.check({0: ("branch", 4, 9), 4: STOP}, 0, [(0, 0), (4, 4), (9, None)])
        # All that lies behind is among it.
        table = {0: ("branch", 1, 20), 1: ("jump", 1, 30), 20: ("load", 1, 40), 21: STOP, 25: ("word", 1, 1)}
        self.check(table, 0, [(0, 1), (20, 20), (30, None)])
        self.check({**table, 20: ("load", 1, 25)}, 0, [(0, 1), (20, 21), (25, 25), (30, None)])
        self.check({**table, 20: ("load", 9, 25)}, 0, [(0, 1), (20, 20), (25, 25), (29, None)])
        self.check({**table, 20: ("jump", 1, 26)}, 0, [(0, 1), (20, 20), (26, None)])

    def test_ranges_that_meet_are_one(self):
        self.check({0: ("plain", 1, 0), 1: ("plain", 1, 0), 2: STOP}, 0, [(0, 2)])
        self.check({0: ("branch", 1, 3), 2: STOP, 3: STOP}, 0, [(0, 3)])
        self.check({0: ("branch", 2, 4), 2: STOP, 4: STOP}, 0, [(0, 0), (2, 2), (4, 4)])
        self.check({0: ("branch", 2, 5), 8: STOP}, 0, [(0, 0), (2, 8)])
        self.check({0: ("branch", 2, 6), 5: STOP, 8: STOP}, 0, [(0, 0), (2, 8)])

    def test_addresses_behind_the_highest(self):
        self.check({HIGHEST: STOP}, 0, [(0, HIGHEST)])
        self.check({HIGHEST: STOP}, HIGHEST, [(HIGHEST, HIGHEST)])
        self.check({HIGHEST: ("plain", 99, 0)}, HIGHEST, [(HIGHEST, HIGHEST), (HIGHEST + 99, None)])
        self.check({HIGHEST: ("plain", 1, 0)}, 5, [(5, None)])
        self.check({0: ("jump", 1, HIGHEST)}, 0, [(0, 0), (HIGHEST, None)])

    def test_cells_that_no_run_comes_to_mean_nothing(self):
        table = {3: ("plain", 2, 1), 5: ("jump", 1, 3)}
        for cell in (STOP, ("word", 1, 1), ("jump", 1, 0), ("load", 1, 0), ("island", 1, None)):
            for address in (0, 1, 2, 4, 6, 9):
                self.check({**table, address: cell}, 3, [(3, 3), (5, 5)])

    def test_the_order_of_the_keys_means_nothing(self):
        table = {0: ("branch", 2, 8), 2: ("jump", 1, 0), 8: ("load", 1, 20), 9: STOP, 20: ("word", 1, 0)}
        for keys in (sorted(table), sorted(table, reverse=True), [8, 20, 0, 9, 2]):
            self.check({at: table[at] for at in keys}, 0, [(0, 0), (2, 2), (8, 9), (20, 20)])

    def test_many_told_again(self):
        numbers = Numbers(190)
        kinds = {"endless": 0, "ended": 0, "several": 0}
        for _ in range(3000):
            table = changed_image(numbers, some_image(numbers, 16), numbers.below(3))
            at = numbers.below(12)
            answer = depends_told(table, at)
            self.check(table, at, answer)
            kinds["endless" if answer[-1][1] is None else "ended"] += 1
            kinds["several"] += len(answer) > 2
        self.assertGreater(min(kinds.values()), 500, kinds)

    def test_the_list_is_the_shortest_ascending_one(self):
        numbers = Numbers(191)
        for _ in range(500):
            ranges = depends(some_image(numbers, 16), numbers.below(6))
            for first, last in ranges[:-1]:
                self.assertLessEqual(first, last)
            for (_, last), (first, _) in zip(ranges, ranges[1:]):
                self.assertLess(last + 1, first)

    def test_runs_are_the_same_in_what_is_alike(self):
        numbers = Numbers(192)
        changed = 0
        for _ in range(1500):
            table, at = some_image(numbers, 16), numbers.below(6)
            told, endless = addresses_told(table, at)
            other = dict(table)
            for _ in range(6):
                address = numbers.below(40)
                if address not in told and not (endless and address > max(told)):
                    other[address] = some_cell(numbers)
            changed += other != table
            self.assertEqual(depends(other, at), depends(table, at), (table, other, at))
            for total in range(4):
                for limit in (3, 30):
                    self.assertEqual(run_from(other, at, total, limit), run_from(table, at, total, limit))
        self.assertGreater(changed, 500)


class TestWrongArguments(unittest.TestCase):

    BAD_ADDRESSES = (-1, HIGHEST + 1, 10 ** 20, -10 ** 20, None, True, False, "0", (0,), [0], {0: 0})

    def check(self, error, table, at):
        with self.subTest(table=repr(table)[:80], at=repr(at)[:80]):
            self.assertIs(refusal(depends, table, at), error)

    def test_images_that_are_none(self):
        for table in BAD_IMAGES:
            self.check(NoCells, table, 0)
            self.check(NoCells, table, -1)

    def test_numbers_that_there_are_not(self):
        for at in self.BAD_ADDRESSES:
            self.check(NoNumber, {0: STOP}, at)
        for at in (0, 1, HIGHEST):
            self.check(None, {0: STOP}, at)

    def test_odd_values(self):
        for value in odd_values():
            self.check(None if value == {} else NoCells, value, 0)
            self.check(None if is_integer(value) and 0 <= value <= 2 else NoNumber, {}, value)
            self.check(NoCells, {0: value}, 0)


if __name__ == "__main__":
    unittest.main()
