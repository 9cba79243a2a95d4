"""[18]: run_cells and run_from."""

import unittest

from reachrows.cells import run_cells, run_from
from reachrows.errors import NoCells, NoNumber
from tests.cells_told import changed_image, run_told, some_image
from tests.support import Numbers, is_integer, nested, odd_values, refusal

STOP = ("stop", 1, 0)
HIGHEST = 10 ** 9

BAD_CELLS = (
    None, True, 0, "stop", (), ("stop",), ("stop", 1), ("stop", 1, 0, 0), ["stop", 1, 0], {0: "stop", 1: 1, 2: 0},
    (None, 1, 0), (True, 1, 0), (0, 1, 0), ("align", 1, 0), ("", 1, 0), ("Stop", 1, 0), ("stop ", 1, 0),
    (("stop",), 1, 0), (["stop"], 1, 0), ({}, 1, 0), ("stop", 0, 0), ("stop", -1, 0), ("stop", 100, 0),
    ("stop", 10 ** 20, 0), ("stop", True, 0), ("stop", None, 0), ("stop", "1", 0), ("stop", (1,), 0), ("stop", [1], 0),
    ("stop", 1, -1), ("stop", 1, HIGHEST + 1), ("stop", 1, 10 ** 20), ("stop", 1, True), ("stop", 1, False),
    ("stop", 1, "0"), ("stop", 1, (0,)), ("stop", 1, [0]), ("stop", 1, None), ("plain", 1, None), ("jump", 1, None),
    ("branch", 1, None), ("far", 1, None), ("load", 1, None), ("word", 1, None), ("island", 1, False),
    ("island", 0, None), ("island", True, None), ("island", 100, 0), ("island", 1, -1), ("island", 1, HIGHEST + 1),
    ("island", 1, "None"), ("island", 1),
)
GOOD_CELLS = (
    ("plain", 1, 0), ("plain", 99, HIGHEST), ("stop", 1, 0), ("stop", 99, HIGHEST), ("jump", 1, HIGHEST),
    ("branch", 99, 0), ("far", 1, 5), ("load", 1, HIGHEST), ("word", 99, HIGHEST), ("island", 1, None),
    ("island", 99, 0), ("island", 1, HIGHEST),
)
BAD_IMAGES = (
    None, True, False, 0, 1, "", "stop", (), [], ((0, STOP),), [(0, STOP)], [STOP], (STOP,), STOP,
    {-1: STOP}, {HIGHEST + 1: STOP}, {10 ** 20: STOP}, {None: STOP}, {"0": STOP}, {(0,): STOP}, {(): STOP},
    {0: STOP, "1": STOP}, {number: STOP for number in range(301)}, {number: STOP for number in range(2000)},
    {0: STOP, 1: STOP, 2: None}, nested(dict, 10),
) + tuple({0: cell} for cell in BAD_CELLS) + tuple({0: STOP, 5: cell} for cell in BAD_CELLS)


class TestRuns(unittest.TestCase):

    def check(self, table, total, limit, answer, at=0):
        with self.subTest(table=table, total=total, limit=limit, at=at):
            self.assertEqual(run_from(table, at, total, limit), answer)
            if at == 0:
                self.assertEqual(run_cells(table, total, limit), answer)

    def test_the_answer_is_a_tuple(self):
        for table in ({0: STOP}, {}):
            answer = run_cells(table, 3, 10)
            self.assertIs(type(answer), tuple)
            self.assertEqual([type(member) for member in answer], [str, int, int])

    def test_one_cell(self):
        self.check({0: STOP}, 3, 10, ("stop", 3, 1))
        self.check({7: ("stop", 1, 5)}, 3, 10, ("stop", 3, 1))
        self.check({HIGHEST: STOP}, 3, 10, ("stop", 3, 1))
        self.check({0: ("plain", 1, 4)}, 3, 10, ("lost", 7, 1))
        self.check({0: ("jump", 1, 0)}, 3, 10, ("limit", 3, 10))
        self.check({5: ("branch", 1, 0)}, 3, 10, ("limit", 3, 10))
        self.check({5: ("branch", 1, 0)}, 4, 10, ("lost", 4, 1))
        self.check({5: ("far", 1, 5)}, 3, 1000, ("limit", 3, 1000))

    def test_no_cell_at_all(self):
        self.check({}, 3, 10, ("lost", 3, 0))
        self.check({}, 3, 1, ("lost", 3, 0))
        self.check({}, 3, 0, ("limit", 3, 0))
        self.check({}, 3, 10, ("lost", 3, 0), HIGHEST)

    def test_gaps_between_cells(self):
        table = {3: ("plain", 2, 1), 9: ("plain", 2, 10), 30: ("stop", 1, 0)}
        self.check(table, 0, 10, ("stop", 11, 3))
        self.check({0: ("plain", 99, 1), 98: ("plain", 1, 10), 99: STOP}, 0, 10, ("stop", 1, 2))

    def test_cells_within_others(self):
        table = {0: ("plain", 4, 1), 1: ("plain", 1, 10), 3: ("plain", 9, 100), 4: ("plain", 1, 1000), 5: STOP}
        self.check(table, 0, 10, ("stop", 1001, 3))
        self.check(table, 0, 10, ("lost", 110, 2), 1)
        self.check(table, 0, 10, ("lost", 100, 1), 2)

    def test_goals_that_are_no_cells(self):
        for word in ("jump", "branch", "far", "island"):
            steps = 1 if word == "island" else 2
            table = {0: (word, 1, 2), 1: ("plain", 5, 9), 4: STOP}
            self.check(table, 1, 10, ("stop", 1, steps))
            self.check({**table, 0: (word, 1, 4)}, 1, 10, ("stop", 1, steps))
            self.check({**table, 0: (word, 1, 5)}, 1, 10, ("lost", 1, steps - 1))
            self.check({**table, 0: (word, 1, HIGHEST)}, 1, 10, ("lost", 1, steps - 1))

    def test_goals_ahead(self):
        table = {5: STOP, 8: ("jump", 1, 3), 20: ("far", 2, 6), 30: ("branch", 2, 9)}
        self.check(table, 1, 10, ("stop", 1, 1))
        self.check(table, 1, 10, ("stop", 1, 2), 6)
        self.check(table, 1, 10, ("stop", 1, 3), 9)
        self.check(table, 1, 10, ("stop", 1, 4), 21)
        self.check(table, 2, 10, ("lost", 2, 1), 21)

    def test_branches(self):
        table = {0: ("branch", 3, 7), 3: ("stop", 1, 0), 7: ("plain", 1, 2), 8: STOP}
        self.check(table, 0, 10, ("stop", 0, 2))
        self.check(table, 1, 10, ("stop", 3, 3))
        self.check(table, 65534, 10, ("stop", 65534, 2))
        self.check(table, 65535, 10, ("stop", 1, 3))
        self.check({**table, 3: ("plain", 1, 1), 4: ("jump", 1, 0)}, 0, 10, ("stop", 3, 6))

    def test_totals_are_kept_modulo_65536(self):
        self.check({0: ("plain", 1, 1), 1: STOP}, 65535, 10, ("stop", 0, 2))
        self.check({0: ("plain", 1, HIGHEST), 1: STOP}, 65535, 10, ("stop", (HIGHEST + 65535) % 65536, 2))
        self.check({0: ("plain", 1, 65536), 1: STOP}, 5, 10, ("stop", 5, 2))
        table = {0: ("load", 1, 9), 1: STOP, 9: ("word", 1, HIGHEST)}
        self.check(table, 5, 10, ("stop", (HIGHEST + 5) % 65536, 2))
        self.check({0: ("plain", 1, HIGHEST), 1: ("jump", 1, 0)}, 0, 1000, ("limit", 500 * HIGHEST % 65536, 1000))

    def test_numbers_of_other_cells_add_nothing(self):
        for word in ("stop", "jump", "branch", "far", "island"):
            self.check({0: (word, 1, 7), 7: STOP}, 1, 10, ("stop", 1, {"stop": 1, "island": 1}.get(word, 2)))

    def test_loads(self):
        table = {0: ("load", 2, 4), 2: STOP, 4: ("word", 4, 7)}
        self.check(table, 1, 10, ("stop", 8, 2))
        table = {0: ("jump", 1, 5), 1: ("word", 4, 9), 5: ("load", 2, 1), 7: ("load", 1, 1), 9: STOP}
        self.check(table, 1, 10, ("stop", 19, 4))

    def test_loads_of_no_word(self):
        table = {0: ("load", 2, 4), 2: STOP, 4: ("word", 4, 7), 9: ("plain", 1, 5)}
        # Nor is it enough that a word lies around the address, or is the next one.
        for number in (0, 1, 2, 3, 5, 6, 7, 8, 9, 10, HIGHEST):
            self.check({**table, 0: ("load", 2, number)}, 1, 10, ("lost", 1, 0))
            self.check({**table, 0: ("load", 2, number)}, 1, 1, ("lost", 1, 0))
            self.check({**table, 0: ("load", 2, number)}, 1, 0, ("limit", 1, 0))
        for cell in (("stop", 4, 7), ("island", 4, None), ("plain", 4, 7), ("load", 4, 4)):
            self.check({**table, 4: cell}, 1, 10, ("lost", 1, 0))

    def test_a_word_that_is_come_to(self):
        self.check({0: ("word", 1, 5)}, 1, 10, ("lost", 1, 0))
        self.check({0: ("plain", 1, 5), 1: ("word", 1, 5), 2: STOP}, 1, 10, ("lost", 6, 1))
        self.check({0: ("jump", 1, 5), 5: ("word", 1, 5), 6: STOP}, 1, 10, ("lost", 1, 1))
        self.check({0: ("island", 1, 5), 5: ("word", 1, 5), 6: STOP}, 1, 10, ("lost", 1, 0))

    def test_islands(self):
        table = {0: ("far", 2, 8), 4: ("stop", 1, 0), 8: ("island", 2, 16), 10: STOP, 16: ("island", 2, 4)}
        self.check(table, 1, 10, ("stop", 1, 2))
        self.check(table, 1, 1, ("limit", 1, 1))
        self.check(table, 1, 2, ("stop", 1, 2))
        # A run that comes to an island by going on goes by it, too.
        self.check({0: ("plain", 8, 3), 8: ("island", 2, 16), 10: STOP, 16: ("plain", 1, 5), 17: STOP}, 0, 9,
                   ("stop", 8, 3))

    def test_an_island_without_a_number(self):
        self.check({0: ("island", 2, None), 2: STOP}, 1, 10, ("lost", 1, 0))
        self.check({0: ("island", 2, None), 2: STOP}, 1, 0, ("limit", 1, 0))
        self.check({0: ("far", 2, 5), 2: STOP, 5: ("island", 2, 7), 7: ("island", 2, None)}, 1, 10, ("lost", 1, 1))
        self.check({0: ("far", 2, 5), 2: STOP, 5: ("island", 2, 7), 7: ("island", 2, None)}, 1, 1, ("limit", 1, 1))

    def test_islands_in_a_ring(self):
        self.check({0: ("island", 1, 0)}, 1, 10, ("lost", 1, 0))
        self.check({0: ("island", 1, 1), 1: ("island", 1, 2), 2: ("island", 1, 0)}, 1, 10, ("lost", 1, 0))
        self.check({0: ("island", 1, 1), 1: ("island", 1, 2), 2: ("island", 1, 1)}, 1, 10, ("lost", 1, 0))
        table = {0: ("plain", 1, 4), 1: ("island", 1, 5), 5: ("island", 1, 1)}
        self.check(table, 1, 10, ("lost", 5, 1))
        self.check(table, 1, 2, ("lost", 5, 1))
        self.check(table, 1, 1, ("limit", 5, 1))

    def test_an_island_again_with_a_counted_cell_in_between(self):
        table = {0: ("island", 1, 4), 4: ("plain", 1, 3), 5: ("jump", 1, 0)}
        self.check(table, 0, 10, ("limit", 15, 10))
        self.check({0: ("island", 1, 4), 4: ("jump", 1, 0)}, 0, 1000, ("limit", 0, 1000))
        table = {0: ("island", 1, 4), 4: ("island", 1, 6), 6: ("branch", 1, 0), 7: ("plain", 1, 1), 8: ("jump", 1, 4)}
        self.check(table, 0, 10, ("limit", 1, 10))

    def test_the_limit_comes_ahead_of_what_is_lost(self):
        for behind in ({}, {1: ("word", 1, 0)}, {1: ("island", 1, None)}, {1: ("island", 1, 1)}, {1: ("load", 1, 0)}):
            table = {0: ("plain", 1, 5), **behind}
            self.check(table, 1, 0, ("limit", 1, 0))
            self.check(table, 1, 1, ("limit", 6, 1))
            self.check(table, 1, 2, ("lost", 6, 1))
            self.check(table, 1, 1000, ("lost", 6, 1))

    def test_a_stop_that_is_the_last_one_of_the_limit(self):
        table = {0: ("plain", 1, 5), 1: ("plain", 1, 5), 2: STOP}
        for limit, answer in ((0, ("limit", 1, 0)), (1, ("limit", 6, 1)), (2, ("limit", 11, 2)), (3, ("stop", 11, 3)),
                              (4, ("stop", 11, 3))):
            self.check(table, 1, limit, answer)

    def test_from_each_address(self):
        table = {2: ("plain", 3, 1), 5: ("branch", 1, 2), 6: ("plain", 1, 10), 9: STOP}
        # From the "plain" the total is odd at the branch, then even.
        answers = [("stop", 12, 6)] * 3 + [("stop", 10, 3)] * 3 + [("stop", 10, 2)] + [("stop", 0, 1)] * 3
        for at in range(13):
            self.check(table, 0, 10, answers[at] if at < 10 else ("lost", 0, 0), at)

    def test_the_order_of_the_keys_means_nothing(self):
        table = {0: ("branch", 1, 6), 1: ("plain", 2, 3), 3: ("jump", 1, 0), 6: ("island", 1, 9), 9: STOP}
        answer = run_told(table, 0, 0, 100)
        self.assertEqual(answer, ("stop", 3, 5))
        for keys in (sorted(table, reverse=True), [3, 0, 9, 1, 6], [6, 9, 3, 1, 0]):
            self.check({at: table[at] for at in keys}, 0, 100, answer)

    def test_many_told_again(self):
        numbers = Numbers(180)
        ends = {"stop": 0, "limit": 0, "lost": 0}
        for _ in range(4000):
            table = changed_image(numbers, some_image(numbers), numbers.below(3))
            total, limit = numbers.one_of((0, 1, 2, 65533, 65534, 65535)), numbers.below(12)
            at = numbers.below(30) if numbers.below(2) else 0
            answer = run_told(table, at, total, limit)
            self.check(table, total, limit, answer, at)
            ends[answer[0]] += answer[2] > 1
        self.assertGreater(min(ends.values()), 100, ends)


class TestWrongArguments(unittest.TestCase):

    def check(self, error, table, total, limit, at=0):
        with self.subTest(table=repr(table)[:80], total=repr(total)[:80], limit=repr(limit)[:80], at=repr(at)[:80]):
            self.assertIs(refusal(run_from, table, at, total, limit), error)
            if is_integer(at) and 0 <= at <= HIGHEST:
                self.assertIs(refusal(run_cells, table, total, limit), error)

    def test_images_that_are_none(self):
        for table in BAD_IMAGES:
            self.check(NoCells, table, 0, 10)
            self.check(NoCells, table, 0, 0)

    def test_cells_of_all_kinds(self):
        for cell in GOOD_CELLS:
            for address in (0, 1, HIGHEST):
                self.check(None, {address: cell}, 0, 10)

    def test_three_hundred_cells_at_the_most(self):
        for many in (0, 1, 299, 300, 301, 302):
            error = None if many <= 300 else NoCells
            self.check(error, {number: STOP for number in range(many)}, 0, 10)
            self.check(error, {HIGHEST - number: STOP for number in range(many)}, 0, 10)

    def test_numbers_that_there_are_not(self):
        table = {0: STOP}
        for value in (-1, 65536, 10 ** 20, -10 ** 20, None, True, False, "0", (0,), [0], {0: 0}):
            self.check(NoNumber, table, value, 0)
        for value in (-1, 1001, 10 ** 20, -10 ** 20, None, True, False, "0", (0,), [0], {0: 0}):
            self.check(NoNumber, table, 0, value)
        for value in (-1, HIGHEST + 1, 10 ** 20, -10 ** 20, None, True, False, "0", (0,), [0], {0: 0}):
            self.check(NoNumber, table, 0, 0, value)
        for total, limit, at in ((0, 0, 0), (65535, 1000, HIGHEST)):
            self.check(None, table, total, limit, at)

    def test_the_order_of_the_errors(self):
        for table in BAD_IMAGES:
            self.check(NoCells, table, -1, -1)
            self.check(NoCells, table, 0, 0, -1)
        self.check(NoNumber, {}, -1, -1, -1)

    def test_odd_values(self):
        for value in odd_values():
            self.check(None if value == {} else NoCells, value, 0, 0)
            self.check(None if is_integer(value) and 0 <= value <= 2 else NoNumber, {}, value, 0)
            self.check(None if is_integer(value) and 0 <= value <= 2 else NoNumber, {}, 0, value)
            self.check(None if is_integer(value) and 0 <= value <= 2 else NoNumber, {}, 0, 0, value)
            self.check(NoCells, {0: value}, 0, 0)
            self.check(None if value in ("plain", "stop") else NoCells, {0: (value, 1, 0)}, 0, 0)
            good = is_integer(value) and 0 <= value <= 2
            self.check(None if good and value > 0 else NoCells, {0: ("stop", value, 0)}, 0, 0)
            self.check(None if good else NoCells, {0: ("stop", 1, value)}, 0, 0)
            self.check(None if good or value is None else NoCells, {0: ("island", 1, value)}, 0, 0)


if __name__ == "__main__":
    unittest.main()
