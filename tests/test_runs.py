"""[4]: run_book."""

import unittest

from reachrows.books import is_book, run_book
from reachrows.errors import NoBook, NoNumber
from tests.support import Numbers, is_integer, odd_values, refusal

STOP = ("stop", 1)
PLUS_1 = ("plain", 1, 1)


def alone(*rows):
    """The book of one part of these rows."""
    return (rows,)


class TestOrdinaryRuns(unittest.TestCase):

    def check(self, book, total, limit, answer):
        with self.subTest(book=book, total=total, limit=limit):
            self.assertEqual(run_book(book, total, limit), answer)

    def test_the_answer_is_a_tuple_of_a_string_and_two_integers(self):
        for limit in (0, 10):
            answer = run_book(alone(PLUS_1, STOP), 0, limit)
            self.assertEqual([type(member) for member in answer], [str, int, int])
            self.assertIs(type(answer), tuple)

    def test_a_stop_ends_the_run_and_is_counted(self):
        self.check(alone(STOP), 7, 10, ("stop", 7, 1))
        self.check(alone(("stop", 99), PLUS_1, STOP), 7, 10, ("stop", 7, 1))

    def test_a_plain_row_adds_its_second_number_and_goes_on(self):
        self.check(alone(("plain", 50, 3), STOP), 10, 10, ("stop", 13, 2))
        self.check(alone(("plain", 50, 0), ("plain", 1, 999), STOP), 10, 10, ("stop", 1009, 3))

    def test_a_load_adds_its_number_with_and_without_a_word(self):
        self.check(alone(("load", 300), STOP), 10, 10, ("stop", 310, 2))
        self.check(alone(("load", 300), STOP, ("word", 300)), 10, 10, ("stop", 310, 2))
        self.check(alone(("load", 300), STOP, ("word", 301)), 10, 10, ("stop", 310, 2))

    def test_a_jump_goes_to_its_goal_ahead_and_behind(self):
        self.check(alone(("jump", 2), ("plain", 1, 5), ("plain", 1, 10), STOP), 0, 10, ("stop", 10, 3))
        self.check(alone(("jump", 3), ("plain", 1, 5), STOP, ("jump", 1)), 0, 10, ("stop", 5, 4))
        self.check(alone(("jump", 3), ("plain", 1, 5), STOP, ("jump", 1)), 1, 10, ("stop", 6, 4))

    def test_a_branch_goes_to_its_goal_if_the_total_is_odd_else_on(self):
        book = alone(("branch", 2), STOP, ("plain", 1, 100), STOP)
        for total in (0, 2, 4, 65534):
            self.check(book, total, 10, ("stop", total, 2))
        for total in (1, 3, 5):
            self.check(book, total, 10, ("stop", total + 100, 3))
        self.check(book, 65535, 10, ("stop", 99, 3))

    def test_a_branch_asks_for_the_total_of_the_moment(self):
        book = alone(PLUS_1, ("branch", 4), ("plain", 1, 10), STOP, ("plain", 1, 100), STOP)
        self.check(book, 0, 10, ("stop", 101, 4))
        self.check(book, 1, 10, ("stop", 12, 4))

    def test_a_branch_back(self):
        book = alone(("plain", 1, 3), ("plain", 1, 2), ("branch", 0), STOP)
        self.check(book, 0, 20, ("stop", 10, 7))
        self.check(book, 1, 20, ("stop", 6, 4))

    def test_words_are_passed_over_by_jumps(self):
        self.check(alone(("jump", 2), ("word", 9), PLUS_1, STOP), 0, 10, ("stop", 1, 3))

    def test_the_run_begins_at_row_0_of_part_0(self):
        book = ((("plain", 1, 1), STOP), (("plain", 1, 2), STOP))
        self.check(book, 0, 10, ("stop", 1, 2))

    def test_a_far_row_goes_to_row_0_of_another_part(self):
        parts = tuple((("plain", 1, 10 ** at // 10), STOP) for at in range(1, 4))
        for goal in (1, 2, 3):
            book = ((PLUS_1, ("far", goal)),) + parts
            self.check(book, 0, 10, ("stop", 1 + 10 ** goal // 10, 4))

    def test_goals_are_rows_of_the_part_in_which_the_run_is(self):
        book = ((("far", 1), ("plain", 1, 7), STOP), (("jump", 2), STOP, ("plain", 1, 100), STOP))
        self.check(book, 0, 10, ("stop", 100, 4))
        book = ((("far", 1), ("plain", 1, 7), STOP), (("branch", 2), STOP, ("plain", 1, 100), STOP))
        self.check(book, 1, 10, ("stop", 101, 4))

    def test_a_far_row_goes_to_its_own_part(self):
        book = alone(PLUS_1, ("branch", 3), STOP, ("far", 0))
        self.check(book, 0, 20, ("stop", 2, 6))
        self.check(book, 1, 20, ("stop", 2, 3))
        self.check(alone(("far", 0)), 5, 20, ("limit", 5, 20))

    def test_a_far_row_and_back_again(self):
        book = ((PLUS_1, ("branch", 3), STOP, ("far", 1)), (("plain", 1, 10), ("far", 0)))
        self.check(book, 0, 20, ("stop", 12, 8))


class TestTotals(unittest.TestCase):

    def check(self, book, total, answer):
        with self.subTest(book=book, total=total):
            self.assertEqual(run_book(book, total, 100), answer)

    def test_totals_that_pass_65535(self):
        self.check(alone(PLUS_1, STOP), 65534, ("stop", 65535, 2))
        self.check(alone(PLUS_1, STOP), 65535, ("stop", 0, 2))
        self.check(alone(("plain", 1, 999), STOP), 65535, ("stop", 998, 2))
        self.check(alone(("load", 65535), STOP), 0, ("stop", 65535, 2))
        self.check(alone(("load", 65535), STOP), 1, ("stop", 0, 2))
        self.check(alone(("load", 65535), STOP), 65535, ("stop", 65534, 2))
        self.check(alone(("load", 65535), ("load", 65535), PLUS_1, STOP), 65535, ("stop", 65534, 4))

    def test_a_branch_behind_a_total_that_passed_65535(self):
        book = alone(PLUS_1, ("branch", 3), STOP, ("plain", 1, 100), STOP)
        self.check(book, 65535, ("stop", 0, 3))
        self.check(book, 65534, ("stop", 99, 4))

    def test_the_greatest_total_stays(self):
        self.check(alone(STOP), 65535, ("stop", 65535, 1))
        self.check(alone(STOP), 0, ("stop", 0, 1))

    def test_a_total_that_passes_65535_many_times(self):
        book = alone(("load", 65535), ("plain", 1, 999), ("jump", 0))
        self.assertEqual(run_book(book, 0, 1000), ("limit", (334 * 65535 + 333 * 999) % 65536, 1000))


class TestLimits(unittest.TestCase):

    def check(self, book, total, limit, answer):
        with self.subTest(book=book, total=total, limit=limit):
            self.assertEqual(run_book(book, total, limit), answer)

    def test_a_limit_of_0_ends_each_run_at_once(self):
        for book in (alone(STOP), alone(PLUS_1, STOP), alone(("align", 2), STOP), alone(("jump", 0))):
            self.check(book, 9, 0, ("limit", 9, 0))

    def test_the_run_ends_as_soon_as_so_many_rows_are_executed(self):
        book = alone(PLUS_1, PLUS_1, PLUS_1, STOP)
        self.check(book, 0, 1, ("limit", 1, 1))
        self.check(book, 0, 2, ("limit", 2, 2))
        self.check(book, 0, 3, ("limit", 3, 3))
        self.check(book, 0, 4, ("stop", 3, 4))
        self.check(book, 0, 5, ("stop", 3, 4))

    def test_a_stop_as_the_last_row_of_the_limit(self):
        self.check(alone(STOP), 0, 1, ("stop", 0, 1))

    def test_each_kind_of_row_but_align_is_counted(self):
        book = ((PLUS_1, ("load", 1), ("branch", 0), ("jump", 4), ("far", 1)), (STOP,))
        for limit, total in ((1, 1), (2, 2), (3, 2), (4, 2), (5, 2)):
            self.check(book, 0, limit, ("limit", total, limit))
        self.check(book, 0, 6, ("stop", 2, 6))

    def test_a_limit_of_1000(self):
        self.check(alone(PLUS_1, ("jump", 0)), 0, 1000, ("limit", 500, 1000))
        self.check(alone(PLUS_1, ("jump", 0)), 0, 999, ("limit", 500, 999))
        self.check(alone(("jump", 0)), 3, 1000, ("limit", 3, 1000))

    def test_a_stop_behind_many_rows(self):
        part = (PLUS_1,) * 19 + (("far", 1),)
        book = (part, part[:-1] + (("far", 2),), (PLUS_1,) * 9 + (STOP,))
        self.check(book, 0, 1000, ("stop", 47, 50))
        self.check(book, 0, 50, ("stop", 47, 50))
        self.check(book, 0, 49, ("limit", 47, 49))

    def test_align_rows_are_not_counted(self):
        for number in (2, 4, 8, 16):
            self.check(alone(("align", number), STOP), 5, 1, ("stop", 5, 1))
        self.check(alone(("align", 2), PLUS_1, ("align", 2), PLUS_1, STOP), 0, 10, ("stop", 2, 3))

    def test_several_align_rows_ahead_of_a_stop(self):
        book = alone(PLUS_1, ("align", 2), ("align", 4), ("align", 8), STOP)
        self.check(book, 0, 10, ("stop", 1, 2))
        self.check(book, 0, 2, ("stop", 1, 2))
        self.check(book, 0, 1, ("limit", 1, 1))
        self.check(alone(*[("align", 2)] * 19, STOP), 8, 1, ("stop", 8, 1))

    def test_align_rows_to_which_a_jump_goes(self):
        book = alone(("jump", 2), STOP, ("align", 4), ("align", 16), ("plain", 1, 4), STOP)
        self.check(book, 0, 10, ("stop", 4, 3))
        self.check(book, 0, 1, ("limit", 0, 1))
        self.check(book, 0, 2, ("limit", 4, 2))

    def test_align_rows_in_a_loop(self):
        book = alone(("align", 2), PLUS_1, ("align", 2), ("jump", 0))
        self.check(book, 0, 1000, ("limit", 500, 1000))


class TestWrongRuns(unittest.TestCase):

    def test_totals_that_there_are_not(self):
        for total in (-1, 65536, 65537, -65536, 10 ** 20, -10 ** 20, True, False):
            with self.subTest(total=total):
                self.assertIs(refusal(run_book, alone(STOP), total, 10), NoNumber)

    def test_totals_at_their_bounds(self):
        for total in (0, 1, 65534, 65535):
            self.assertEqual(run_book(alone(STOP), total, 10), ("stop", total, 1))

    def test_limits_that_there_are_not(self):
        for limit in (-1, 1001, 1002, -1000, 65535, 10 ** 20, -10 ** 20, True, False):
            with self.subTest(limit=limit):
                self.assertIs(refusal(run_book, alone(STOP), 0, limit), NoNumber)

    def test_limits_at_their_bounds(self):
        for limit in (1, 2, 999, 1000):
            self.assertEqual(run_book(alone(STOP), 0, limit), ("stop", 0, 1))
        self.assertEqual(run_book(alone(STOP), 0, 0), ("limit", 0, 0))

    def test_wrong_kinds(self):
        for value in odd_values():
            with self.subTest(value=repr(value)[:60]):
                self.assertIs(refusal(run_book, value, 0, 10), NoBook)
                if not is_integer(value):
                    self.assertIs(refusal(run_book, alone(STOP), value, 10), NoNumber)
                    self.assertIs(refusal(run_book, alone(STOP), 0, value), NoNumber)

    def test_books_that_are_none(self):
        books = (
            (), [(STOP,)], (STOP,), ((PLUS_1,),), ((("far", 1),),), ((STOP,),) * 6, ([STOP],), ((["stop", 1],),),
        )
        for book in books:
            with self.subTest(book=book):
                self.assertIs(refusal(run_book, book, 0, 10), NoBook)
                self.assertIs(refusal(run_book, book, 0, 0), NoBook)

    def test_what_is_not_reached_is_asked_for_too(self):
        book = ((STOP, ("far", 2)), (STOP,))
        self.assertIs(refusal(run_book, book, 0, 10), NoBook)


def run_told_again(book, total, limit):
    """run_book, told by a list of what is executed."""
    rows, part, number = [], 0, 0
    while True:
        counted = [row for row in rows if row[0] != "align"]
        if rows and rows[-1][0] == "stop":
            return ("stop", total, len(counted))
        if len(counted) == limit:
            return ("limit", total, limit)
        row = book[part][number]
        rows.append(row)
        number += 1
        if row[0] in ("plain", "load"):
            total += row[-1]
            while total > 65535:
                total -= 65536
        if row[0] == "jump" or row[0] == "branch" and total & 1:
            number = row[1]
        if row[0] == "far":
            part, number = row[1], 0


def some_book(numbers):
    """Some tuple of parts, most often a book."""
    rows = (
        ("plain", 1, 1), ("plain", 2, 2), ("plain", 3, 999), ("load", 65535), ("load", 40000), ("align", 2),
        ("align", 16), STOP, ("far", 0), ("far", 1), ("far", 2), ("word", 3),
    )
    kinds = rows + tuple((word, goal) for word in ("jump", "branch") for goal in range(6))
    return tuple(tuple(numbers.one_of(kinds) for _ in range(5)) + (STOP,) for _ in range(3))


class TestManyRuns(unittest.TestCase):

    def test_many_books(self):
        numbers = Numbers(4)
        books = [book for book in [some_book(numbers) for _ in range(6000)] if is_book(book)]
        self.assertGreater(len(books), 300)
        for book in books:
            for total in (0, 65535, numbers.below(65536)):
                for limit in (0, 1, 2, 3, 7, 30):
                    self.assertEqual(run_book(book, total, limit), run_told_again(book, total, limit), (book, total))


if __name__ == "__main__":
    unittest.main()
