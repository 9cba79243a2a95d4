"""[20]: patch and patched."""

import itertools
import unittest

from reachrows.errors import NoCells, NoWrites
from reachrows.patches import patch, patched
from tests.cells_told import changed_image, images_told, patch_told, some_cell, some_image
from tests.support import Numbers, is_integer, nested, odd_values, refusal
from tests.test_run_cells import BAD_CELLS, BAD_IMAGES, GOOD_CELLS, HIGHEST, STOP

PLAIN = ("plain", 2, 3)
TABLE = {0: PLAIN, 4: ("branch", 1, 0), 5: STOP}

BAD_WRITES = (
    None, True, False, 0, "", "stop", (), {}, {0: STOP}, ((0, STOP),), (0, STOP), (0, None), [None], [True], [0],
    ["stop"], [()], [(0,)], [(0, STOP, 0)], [(STOP, 0)], [[0, STOP]], [[0, None]], [{0: STOP}], [STOP], [(-1, STOP)],
    [(-1, None)], [(HIGHEST + 1, STOP)], [(HIGHEST + 1, None)], [(10 ** 20, None)], [(True, STOP)], [(True, None)],
    [(False, None)], [(None, None)], [("0", None)], [((0,), None)], [([0], None)], [(0, STOP), (1, STOP), 2],
    [(0, None)] * 601, [(0, STOP)] * 601, [(0, STOP)] * 2000, [(number, STOP) for number in range(301)],
    [[]], nested(list, 10),
) + tuple([(0, cell)] for cell in BAD_CELLS if cell is not None)


class TestPatch(unittest.TestCase):

    def check(self, before, after, answer):
        with self.subTest(before=before, after=after):
            self.assertEqual(patch(before, after), answer)
            self.assertEqual(patched(before, answer), after)

    def test_the_answer_is_a_list_of_tuples(self):
        answer = patch({0: STOP, 2: STOP}, {0: PLAIN})
        self.assertIs(type(answer), list)
        self.assertEqual(answer, [(0, PLAIN), (2, None)])
        self.assertEqual([type(write) for write in answer], [tuple, tuple])
        self.assertEqual([type(answer[0][0]), type(answer[0][1])], [int, tuple])

    def test_images_that_are_the_same(self):
        self.check({}, {}, [])
        self.check(TABLE, TABLE, [])
        self.check(TABLE, {at: TABLE[at] for at in (5, 0, 4)}, [])

    def test_cells_that_come_and_go(self):
        self.check({}, {3: STOP}, [(3, STOP)])
        self.check({3: STOP}, {}, [(3, None)])
        self.check({3: STOP}, {4: STOP}, [(3, None), (4, STOP)])
        self.check(TABLE, {}, [(0, None), (4, None), (5, None)])
        self.check({}, TABLE, [(0, PLAIN), (4, ("branch", 1, 0)), (5, STOP)])

    def test_cells_that_differ(self):
        for cell in GOOD_CELLS:
            for other in GOOD_CELLS:
                self.check({7: cell}, {7: other}, [] if cell == other else [(7, other)])
        for other in (("stop", 9, 9), ("plain", 9, 5), ("stop", 9, 5)):
            cell = ("stop", 9, 5)
            self.check({7: cell}, {7: other}, [] if cell == other else [(7, other)])
        self.check({7: ("stop", 8, 5)}, {7: ("stop", 9, 5)}, [(7, ("stop", 9, 5))])
        self.check({7: ("island", 8, None)}, {7: ("island", 8, 0)}, [(7, ("island", 8, 0))])

    def test_ascending_and_only_where_they_differ(self):
        before = {HIGHEST: STOP, 100: STOP, 9: PLAIN, 30: STOP}
        after = {10: STOP, 9: PLAIN, 100: PLAIN, HIGHEST: PLAIN, 0: STOP}
        answer = [(0, STOP), (10, STOP), (30, None), (100, PLAIN), (HIGHEST, PLAIN)]
        self.check(before, after, answer)

    def test_six_hundred_writes(self):
        before = {number: STOP for number in range(300)}
        after = {number + 300: STOP for number in range(300)}
        answer = [(number, None) for number in range(300)] + [(number + 300, STOP) for number in range(300)]
        self.check(before, after, answer)
        self.assertEqual(patched(before, answer[::-1]), after)

    def test_many_told_again(self):
        numbers = Numbers(200)
        for _ in range(1000):
            before = some_image(numbers)
            after = changed_image(numbers, before, 6) if numbers.below(2) else some_image(numbers)
            self.check(before, after, patch_told(before, after))


class TestPatched(unittest.TestCase):

    def check(self, writes, answer, table=None):
        with self.subTest(writes=writes):
            self.assertEqual(patched(TABLE if table is None else table, writes), answer)

    def test_the_answer_is_a_new_dict(self):
        for writes in ([], [(0, STOP)], [(9, None)]):
            table = dict(TABLE)
            answer = patched(table, writes)
            self.assertIs(type(answer), dict)
            self.assertIsNot(answer, table)
            self.assertEqual(table, TABLE)

    def test_no_writes(self):
        self.check([], TABLE)
        self.check([], {}, {})

    def test_cells_written_and_taken_away(self):
        self.check([(7, PLAIN)], {**TABLE, 7: PLAIN})
        self.check([(0, STOP)], {**TABLE, 0: STOP})
        self.check([(0, None)], {4: ("branch", 1, 0), 5: STOP})
        self.check([(4, None), (0, None), (5, None)], {})

    def test_a_cell_that_is_not_there_is_taken_away(self):
        for address in (1, 2, 3, 6, HIGHEST):
            self.check([(address, None)], TABLE)
        self.check([(0, None)], {}, {})

    def test_the_same_cell_again(self):
        self.check([(0, PLAIN), (0, PLAIN)], TABLE)

    def test_one_after_the_other(self):
        self.check([(0, STOP), (0, PLAIN)], TABLE)
        self.check([(0, PLAIN), (0, STOP)], {**TABLE, 0: STOP})
        self.check([(0, None), (0, STOP)], {**TABLE, 0: STOP})
        self.check([(0, STOP), (0, None)], {4: ("branch", 1, 0), 5: STOP})
        self.check([(9, STOP), (9, None)], TABLE)
        self.check([(9, STOP), (9, None), (9, None), (9, PLAIN)], {**TABLE, 9: PLAIN})

    def test_the_order_of_the_keys_means_nothing(self):
        writes = [(4, None), (7, PLAIN), (0, STOP)]
        for keys in itertools.permutations(TABLE):
            self.check(writes, {0: STOP, 5: STOP, 7: PLAIN}, {at: TABLE[at] for at in keys})

    def test_all_orders_of_some_writes(self):
        writes = [(0, STOP), (0, None), (9, STOP), (9, PLAIN), (9, None)]
        for order in itertools.permutations(writes):
            self.check(list(order), images_told(TABLE, order)[-1])

    def test_many_told_again(self):
        numbers = Numbers(201)
        for _ in range(500):
            table = some_image(numbers)
            writes = [(numbers.below(12), some_cell(numbers) if numbers.below(3) else None) for _ in range(20)]
            self.check(writes, images_told(table, writes)[-1], table)

    def test_six_hundred_writes_at_the_most(self):
        for many in (599, 600, 601):
            error = None if many <= 600 else NoWrites
            self.assertIs(refusal(patched, TABLE, [(0, STOP)] * many), error)
            self.assertIs(refusal(patched, {}, [(0, None)] * many), error)

    def test_three_hundred_cells_behind_all_of_them(self):
        full = {number: STOP for number in range(300)}
        self.check([], full, full)
        self.check([(0, PLAIN)], {**full, 0: PLAIN}, full)
        self.assertIs(refusal(patched, full, [(300, STOP)]), NoWrites)
        self.assertIs(refusal(patched, full, [(300, STOP), (300, None)]), None)
        self.assertIs(refusal(patched, full, [(300, STOP), (5, None)]), None)
        self.assertIs(refusal(patched, full, [(5, None), (300, STOP), (5, STOP)]), NoWrites)
        # More than 300 in between do not matter.
        more = [(300 + number, STOP) for number in range(300)]
        self.check(more + [(number, None) for number in range(300)], dict(more), full)
        self.assertIs(refusal(patched, full, more + [(number, None) for number in range(299)]), NoWrites)
        self.assertIs(refusal(patched, {}, more), None)
        self.assertIs(refusal(patched, {}, more + [(0, STOP)]), NoWrites)


class TestWrongArguments(unittest.TestCase):

    def test_images_that_are_none(self):
        for table in BAD_IMAGES:
            with self.subTest(table=repr(table)[:80]):
                self.assertIs(refusal(patch, table, TABLE), NoCells)
                self.assertIs(refusal(patch, TABLE, table), NoCells)
                self.assertIs(refusal(patch, table, table), NoCells)
                self.assertIs(refusal(patched, table, []), NoCells)
                self.assertIs(refusal(patched, table, None), NoCells)

    def test_writes_that_are_none(self):
        for writes in BAD_WRITES:
            with self.subTest(writes=repr(writes)[:80]):
                self.assertIs(refusal(patched, TABLE, writes), NoWrites)
                self.assertIs(refusal(patched, {}, writes), NoWrites)
                self.assertIs(refusal(patched, None, writes), NoCells)

    def test_writes_of_all_cells(self):
        for cell in GOOD_CELLS + (None,):
            for address in (0, 1, HIGHEST):
                self.assertIs(refusal(patched, TABLE, [(address, cell)]), None)

    def test_odd_values(self):
        for value in odd_values():
            with self.subTest(value=repr(value)[:80]):
                self.assertIs(refusal(patch, value, {}), None if value == {} else NoCells)
                self.assertIs(refusal(patch, {}, value), None if value == {} else NoCells)
                self.assertIs(refusal(patched, value, []), None if value == {} else NoCells)
                self.assertIs(refusal(patched, {}, value), None if value == [] else NoWrites)
                self.assertIs(refusal(patched, {}, [value]), NoWrites)
                self.assertIs(refusal(patched, {}, [(0, value)]), None if value is None else NoWrites)
                error = None if is_integer(value) and 0 <= value <= 2 else NoWrites
                self.assertIs(refusal(patched, {}, [(value, None)]), error)


if __name__ == "__main__":
    unittest.main()
