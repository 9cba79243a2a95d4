"""[21]: clashes and safe_patch."""

import itertools
import unittest

from reachrows.cells import run_from
from reachrows.errors import NoCells, NoNumber
from reachrows.patches import clashes, patch, safe_patch
from tests.cells_told import (
    changed_image, clashes_told, images_told, is_alike, is_safe_told, parted_told, patch_told, safe_orders_told,
    safe_told, some_image,
)
from tests.support import Numbers, is_integer, odd_values, refusal
from tests.test_run_cells import BAD_IMAGES, HIGHEST, STOP

PLAIN = ("plain", 2, 3)
BEFORE = {0: PLAIN, 4: ("branch", 1, 0), 5: STOP}
AFTER = {0: PLAIN, 4: ("jump", 1, 8), 8: STOP}


def some_images(seed, many, most):
    """(before, after, at): images with a patch of at most so many writes."""
    numbers = Numbers(seed)
    for _ in range(many):
        before = some_image(numbers, 12)
        after = changed_image(numbers, before, 1 + numbers.below(most))
        if numbers.below(4) == 0:
            before, after = after, before
        yield before, after, numbers.below(3) * numbers.below(4)


class TestClashes(unittest.TestCase):

    def check(self, before, after, at, answer):
        with self.subTest(before=before, after=after, at=at):
            self.assertEqual(clashes(before, after, at), answer)

    def test_the_answer_is_a_list_of_integers(self):
        answer = clashes(BEFORE, AFTER, 0)
        self.assertIs(type(answer), list)
        self.assertEqual(answer, [4])
        self.assertIs(type(answer[0]), int)

    def test_no_clash(self):
        self.check(BEFORE, BEFORE, 0, [])
        self.check({}, {}, 5, [])
        self.check({0: STOP}, {0: STOP, 5: STOP}, 0, [])
        self.check({0: STOP, 5: STOP}, {0: STOP}, 0, [])
        # Runs in one of both depend on the address, or in none.
        self.check(BEFORE, AFTER, 5, [5])
        self.check(BEFORE, AFTER, 6, [8])
        self.check(BEFORE, AFTER, 9, [])

    def test_several(self):
        before = {0: ("plain", 1, 1), 1: ("plain", 1, 1), 2: ("plain", 1, 1), 3: STOP}
        after = {0: ("plain", 1, 1), 1: ("plain", 1, 2), 2: ("plain", 1, 2), 3: STOP}
        self.check(before, after, 0, [1, 2])
        self.check(before, after, 1, [1, 2])
        self.check(before, after, 2, [2])
        self.check(before, after, 3, [])
        self.check(before, {**after, 0: STOP}, 0, [0])
        self.check(before, {}, 0, [0, 1, 2, 3])

    def test_cells_put_in_and_taken_away_where_one_is_looked_for(self):
        self.check({0: ("jump", 1, 3), 9: STOP}, {0: ("jump", 1, 3), 5: STOP, 9: STOP}, 0, [5])
        self.check({0: ("jump", 1, 3), 5: STOP, 9: STOP}, {0: ("jump", 1, 3), 9: STOP}, 0, [5])
        self.check({0: ("jump", 1, 3), 5: STOP}, {0: ("jump", 1, 3), 4: STOP, 9: STOP}, 0, [4])
        # Behind a range without an end all is depended on.
        self.check({0: ("jump", 1, 3)}, {0: ("jump", 1, 3), 9: STOP}, 0, [9])
        self.check({0: ("jump", 1, 3)}, {0: STOP, 9: STOP}, 0, [0])

    def test_words_of_loads(self):
        before = {0: ("load", 1, 4), 1: STOP, 4: ("word", 1, 5)}
        self.check(before, {**before, 4: ("word", 1, 6)}, 0, [4])
        self.check(before, {0: ("load", 1, 4), 1: STOP}, 0, [4])
        self.check(before, {**before, 0: ("load", 1, 8), 8: ("word", 1, 6)}, 0, [0])

    def test_many_told_again(self):
        counts = {}
        for before, after, at in some_images(210, 3000, 6):
            answer = clashes_told(before, after, at)
            self.check(before, after, at, answer)
            counts[len(answer)] = counts.get(len(answer), 0) + 1
        self.assertGreater(min(counts[many] for many in (0, 1, 2)), 200, counts)

    def test_it_does_not_matter_which_image_is_the_first(self):
        for before, after, at in some_images(211, 500, 6):
            self.assertEqual(clashes(before, after, at), clashes(after, before, at))


class TestSafePatch(unittest.TestCase):

    def check(self, before, after, at, answer):
        with self.subTest(before=before, after=after, at=at):
            self.assertEqual(safe_patch(before, after, at), answer)

    def test_the_answer_is_a_list_of_tuples_or_none(self):
        answer = safe_patch(BEFORE, AFTER, 0)
        self.assertIs(type(answer), list)
        self.assertEqual(answer, [(8, STOP), (4, ("jump", 1, 8)), (5, None)])
        self.assertEqual([type(write) for write in answer], [tuple] * 3)
        self.assertIs(type(safe_patch({}, {}, 0)), list)
        self.assertIs(safe_patch({0: PLAIN, 2: STOP}, {0: ("plain", 2, 4), 2: ("stop", 2, 0)}, 0), None)

    def test_nothing_to_write(self):
        for table in ({}, BEFORE, AFTER):
            self.check(table, table, 0, [])

    def test_what_is_new_comes_first_and_what_is_old_last(self):
        before = {0: ("jump", 1, 10), 10: PLAIN, 12: STOP, 40: STOP}
        after = {0: ("jump", 1, 20), 20: PLAIN, 22: STOP, 50: STOP}
        answer = [(20, PLAIN), (22, STOP), (0, ("jump", 1, 20)), (10, None), (12, None), (40, None), (50, STOP)]
        self.check(before, after, 0, answer)
        answer = [(10, PLAIN), (12, STOP), (0, ("jump", 1, 10)), (20, None), (22, None), (40, STOP), (50, None)]
        self.check(after, before, 0, answer)

    def test_no_clash(self):
        # No run comes to what changes.
        after = {0: STOP, 9: PLAIN, 5: PLAIN, 7: STOP}
        self.check({0: STOP}, after, 0, [(5, PLAIN), (7, STOP), (9, PLAIN)])
        self.check(after, {0: STOP}, 0, [(5, None), (7, None), (9, None)])

    def test_several_clashes(self):
        before = {0: ("plain", 1, 1), 1: ("plain", 1, 1), 2: ("plain", 1, 1), 3: STOP}
        after = {0: ("plain", 1, 1), 1: ("plain", 1, 2), 2: ("plain", 1, 2), 3: STOP}
        self.check(before, after, 0, None)
        self.check(before, after, 1, None)
        self.check(before, after, 2, [(2, ("plain", 1, 2)), (1, ("plain", 1, 2))])
        self.check(before, after, 3, [(1, ("plain", 1, 2)), (2, ("plain", 1, 2))])

    def test_from_another_address(self):
        self.check(BEFORE, AFTER, 5, [(8, STOP), (5, None), (4, ("jump", 1, 8))])
        self.check(AFTER, BEFORE, 5, [(5, STOP), (4, ("branch", 1, 0)), (8, None)])
        self.check(BEFORE, AFTER, 9, [(4, ("jump", 1, 8)), (5, None), (8, STOP)])

    def test_the_told_order(self):
        orders = {None: 0}
        for before, after, at in some_images(212, 2500, 6):
            new, both, others = parted_told(before, after, at)
            answer = safe_told(before, after, at)
            self.check(before, after, at, answer)
            kind = None if answer is None else (len(new) > 0, len(both), len(others) > 0)
            orders[kind] = orders.get(kind, 0) + 1
        # Where no address is in both, runs depend on the same addresses, so that nothing is new.
        self.assertEqual(len(orders), 7, orders)
        self.assertGreater(min(orders.values()), 50, orders)

    def test_against_all_orders(self):
        tried = {True: 0, False: 0}
        for before, after, at in some_images(213, 900, 5):
            if len(patch_told(before, after)) <= 5:
                answer, orders = safe_patch(before, after, at), safe_orders_told(before, after, at)
                with self.subTest(before=before, after=after, at=at):
                    self.assertEqual(answer is not None, orders != [])
                    self.assertEqual(answer is not None, len(clashes(before, after, at)) <= 1)
                    self.assertTrue(answer is None or answer in orders)
                tried[answer is None] += 1
        self.assertGreater(min(tried.values()), 50, tried)

    def test_it_is_the_patch_in_another_order(self):
        for before, after, at in some_images(214, 500, 6):
            answer = safe_patch(before, after, at)
            if answer is not None:
                self.assertEqual(sorted(answer, key=lambda write: write[0]), patch(before, after))
                self.assertEqual(images_told(before, answer)[-1], after)
                self.assertTrue(is_safe_told(before, after, at, answer))

    def test_a_run_at_any_moment_is_one_of_before_or_of_after(self):
        turned = 0
        for before, after, at in some_images(215, 600, 6):
            answer = safe_patch(before, after, at)
            if answer is None:
                continue
            images = images_told(before, answer)
            # Behind some number of writes the image is alike after, and stays so.
            alike = [is_alike(image, after, at) for image in images]
            self.assertEqual(alike, sorted(alike))
            self.assertTrue(all(is_alike(image, before, at) for image, is_after in zip(images, alike) if not is_after))
            turned += False in alike
            for total, limit in itertools.product((0, 1), (0, 2, 40)):
                runs = [run_from(image, at, total, limit) for image in images]
                for run, is_after in zip(runs, alike):
                    self.assertEqual(run, runs[-1] if is_after else runs[0])
        self.assertGreater(turned, 200)

    def test_the_order_of_the_keys_means_nothing(self):
        for before, after, at in some_images(216, 200, 6):
            one = safe_patch(before, after, at)
            other = safe_patch(dict(reversed(before.items())), dict(reversed(after.items())), at)
            self.assertEqual(one, other)
            self.assertEqual(patch(before, after), patch(dict(reversed(before.items())), after))
            self.assertEqual(clashes(before, after, at), clashes(dict(reversed(before.items())), after, at))


class TestWrongArguments(unittest.TestCase):

    def check(self, error, before, after, at):
        with self.subTest(before=repr(before)[:80], after=repr(after)[:80], at=repr(at)[:80]):
            for call in (clashes, safe_patch):
                self.assertIs(refusal(call, before, after, at), error)

    def test_images_that_are_none(self):
        for table in BAD_IMAGES:
            self.check(NoCells, table, AFTER, 0)
            self.check(NoCells, BEFORE, table, 0)
            self.check(NoCells, BEFORE, table, -1)
            self.check(NoCells, table, table, None)

    def test_numbers_that_there_are_not(self):
        for at in (-1, HIGHEST + 1, 10 ** 20, -10 ** 20, None, True, False, "0", (0,), [0], {0: 0}):
            self.check(NoNumber, BEFORE, AFTER, at)
            self.check(NoNumber, {}, {}, at)
        for at in (0, 1, HIGHEST):
            self.check(None, BEFORE, AFTER, at)

    def test_odd_values(self):
        for value in odd_values():
            self.check(None if value == {} else NoCells, value, {}, 0)
            self.check(None if value == {} else NoCells, {}, value, 0)
            self.check(None if is_integer(value) and 0 <= value <= 2 else NoNumber, {}, {}, value)


if __name__ == "__main__":
    unittest.main()
