"""[12]: extents."""

import itertools
import unittest

from reachrows.books import is_book
from reachrows.errors import NoBook, NoMachine, NoOrder, NoRoom
from reachrows.islands import extents
from tests.oracles import extents_told, some_machine, some_rows
from tests.support import MACHINE, Numbers, machine_with, nested, odd_values, put, refusal
from tests.test_growing import CASCADE, CASCADE_MACHINE

KINDS = ("plain", "stop", "far", "far", "branch", "branch", "align", "load", "word")

# None of a book of three parts, nor of one of five.
BAD_ORDERS = (
    None, True, (), (0, 1, 2), [], [0], [0, 1], [0, 1, 2, 3], [0, 1, 1], [0, 0, 0], [1, 2, 3], [0, 1, 3],
    [-1, 0, 1], [0, 1, -1], [False, 1, 2], [0, True, 2], [True, False, 2], [0, 1, None], [0, 1, "2"], [0, 1, (2,)],
    [0, 1, [2]], [[0, 1, 2]], {0: 0, 1: 1, 2: 2}, "012", 0, [0, 1, 2, 2], [0] * 2000, [0, 1, 10 ** 20],
    nested(list, 10),
)
BAD_ROOMS = (
    None, True, (), (0, 0, 0), [], [0], [0, 0], [0, 0, 0, 0], [-1, 0, 0], [0, 0, -1], [10000, 0, 0], [0, 0, 10000],
    [0, False, 0], [True, 0, 0], [0, 0, None], [0, 0, "0"], [0, 0, (0,)], [0, [0], 0], {0: 0, 1: 0, 2: 0}, "000", 0,
    [0] * 2000, [10 ** 20, 0, 0], [0, 0, -10 ** 20], nested(list, 10),
)


def stops(*sizes):
    """A book of parts of these sizes."""
    return tuple((("stop", size),) for size in sizes)


def some_book(numbers, many, rows=5, size=20):
    """Some book of so many parts."""
    while True:
        book = tuple(some_rows(numbers, 1 + numbers.below(rows), KINDS, parts=many, size=size) for _ in range(many))
        if is_book(book):
            return book


def some_order(numbers, many):
    """Some order of so many parts."""
    return numbers.one_of(list(itertools.permutations(range(many))))


class TestExtents(unittest.TestCase):

    def check(self, book, order, room, answer, machine=MACHINE):
        with self.subTest(book=book, order=order, room=room):
            self.assertEqual(extents(book, machine, order, room), answer)

    def test_the_answer_is_a_list_of_tuples_of_integers(self):
        answer = extents(stops(5, 6), MACHINE, [1, 0], [0, 1])
        self.assertIs(type(answer), list)
        self.assertEqual([type(one) for one in answer], [tuple, tuple])
        self.assertEqual({type(address) for one in answer for address in one}, {int})

    def test_one_part(self):
        for size in (1, 15, 16, 17, 99):
            self.check(stops(size), [0], [0], [(0, size)])
            self.check(stops(size), [0], [7], [(0, size + 7)])
            self.check(stops(size), [0], [9999], [(0, size + 9999)])

    def test_multiples_of_sixteen(self):
        for size in range(1, 99):
            first = size
            while first % 16 != 0:
                first += 1
            self.check(stops(size, 3), [0, 1], [0, 0], [(0, size), (first, first + 3)])

    def test_orders(self):
        book = stops(5, 20, 40)
        self.check(book, [0, 1, 2], [0, 0, 0], [(0, 5), (16, 36), (48, 88)])
        self.check(book, [0, 2, 1], [0, 0, 0], [(0, 5), (64, 84), (16, 56)])
        self.check(book, [1, 0, 2], [0, 0, 0], [(32, 37), (0, 20), (48, 88)])
        self.check(book, [1, 2, 0], [0, 0, 0], [(80, 85), (0, 20), (32, 72)])
        self.check(book, [2, 0, 1], [0, 0, 0], [(48, 53), (64, 84), (0, 40)])
        self.check(book, [2, 1, 0], [0, 0, 0], [(80, 85), (48, 68), (0, 40)])

    def test_room_is_kept_behind_the_part_of_its_number(self):
        book = stops(5, 20, 40)
        self.check(book, [2, 0, 1], [11, 0, 0], [(48, 64), (64, 84), (0, 40)])
        self.check(book, [2, 0, 1], [12, 0, 0], [(48, 65), (80, 100), (0, 40)])
        self.check(book, [2, 0, 1], [0, 0, 9], [(64, 69), (80, 100), (0, 49)])
        self.check(book, [2, 0, 1], [0, 9999, 0], [(48, 53), (64, 10083), (0, 40)])
        self.check(book, [0, 1, 2], [1, 2, 3], [(0, 6), (16, 38), (48, 91)])

    def test_sizes_are_those_of_the_parts_as_laid(self):
        part = (("branch", 3), ("plain", 8, 0), ("jump", 0), ("stop", 1))
        self.check((part, part), [0, 1], [0, 0], [(0, 15), (16, 31)], machine_with(reach=9))
        self.check((part, part), [0, 1], [0, 0], [(0, 11), (16, 27)], machine_with(reach=10))
        self.check((CASCADE, part), [0, 1], [0, 0], [(0, 62), (64, 79)], CASCADE_MACHINE)

    def test_parts_with_align(self):
        part = (("branch", 4), ("branch", 4), ("plain", 9, 1), ("align", 16), ("stop", 1))
        self.check((part, part), [1, 0], [0, 0], [(32, 49), (0, 17)], machine_with(reach=13))
        part = (("branch", 2), ("branch", 2), ("align", 16), ("branch", 2), ("stop", 14))
        self.check((part, part), [1, 0], [0, 0], [(32, 63), (0, 31)], (1, 8, 6, 3, 60, 3, 9, 1))

    def test_far_rows_take_their_bytes(self):
        book = ((("far", 1),), (("far", 0), ("far", 1)))
        self.check(book, [0, 1], [0, 0], [(0, 9), (16, 34)], machine_with(far=9))

    def test_many_books_told_again(self):
        numbers = Numbers(120)
        for _ in range(500):
            many = 1 + numbers.below(5)
            book, machine = some_book(numbers, many), some_machine(numbers)
            order, room = list(some_order(numbers, many)), [numbers.below(40) for _ in range(many)]
            self.assertEqual(extents(book, machine, order, room), extents_told(book, machine, order, room))

    def test_leap_means_nothing(self):
        for leap in (0, 9999):
            self.check(stops(5, 20), [1, 0], [0, 0], [(32, 37), (0, 20)], machine_with(leap=leap))


class TestWrongArguments(unittest.TestCase):

    BOOK = stops(5, 20, 40)
    def check(self, book, machine, order, room, error):
        with self.subTest(book=repr(book)[:60], order=repr(order)[:60], room=repr(room)[:60]):
            self.assertIs(refusal(extents, book, machine, order, room), error)

    def test_orders_that_are_none(self):
        for order in BAD_ORDERS:
            self.check(self.BOOK, MACHINE, order, [0, 0, 0], NoOrder)

    def test_rooms_that_are_none(self):
        for room in BAD_ROOMS:
            self.check(self.BOOK, MACHINE, [2, 0, 1], room, NoRoom)
        for room in ([0, 0, 0], [1, 1, 1], [9999, 9999, 9999]):
            self.check(self.BOOK, MACHINE, [2, 0, 1], room, None)

    def test_orders_and_rooms_of_other_books(self):
        for many in range(1, 6):
            for other in range(1, 6):
                order, room = list(range(other))[::-1], [0] * other
                error = None if many == other else NoOrder
                self.check(stops(*[1] * many), MACHINE, order, room, error)
                self.check(stops(*[1] * many), MACHINE, list(range(many)), room, error and NoRoom)

    def test_the_order_need_not_begin_with_part_0(self):
        for order in itertools.permutations(range(3)):
            self.check(self.BOOK, MACHINE, list(order), [0, 0, 0], None)

    def test_the_order_of_the_errors(self):
        for order in BAD_ORDERS:
            for room in BAD_ROOMS:
                self.check(self.BOOK, MACHINE, order, room, NoOrder)
                self.check(self.BOOK, None, order, room, NoMachine)
                self.check(list(self.BOOK), None, order, room, NoBook)

    def test_odd_values(self):
        for value in odd_values():
            self.check(value, MACHINE, [0, 1, 2], [0, 0, 0], NoBook)
            self.check(self.BOOK, value, [0, 1, 2], [0, 0, 0], NoMachine)
            self.check(self.BOOK, MACHINE, value, [0, 0, 0], NoOrder)
            self.check(self.BOOK, MACHINE, [0, 1, 2], value, NoRoom)
            self.check(put(self.BOOK, 1, value), value, value, value, NoBook)
            self.check(self.BOOK, MACHINE, [0, 1, value], [0, 0, 0], None if value == 2 else NoOrder)


if __name__ == "__main__":
    unittest.main()
