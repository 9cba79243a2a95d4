"""[15]: reserve."""

import unittest

from reachrows.aligned import laid
from reachrows.books import is_book
from reachrows.errors import NoBook, NoEdits, NoMachine
from reachrows.room import reserve
from tests.oracles import reserve_told, some_machine
from tests.support import MACHINE, Numbers, is_integer, machine_with, nested, odd_values, put, refusal
from tests.test_extents import some_book, stops
from tests.test_growing import CASCADE, CASCADE_MACHINE

BOOK = stops(5, 20, 40)
LESS, AS_GREAT, MORE = (("stop", 4),), (("plain", 2, 7), ("stop", 3)), (("stop", 9),)

# None of a book of three parts.
BAD_EDITS = (
    None, True, False, 0, "", (), ((0, MORE),), {}, {0: MORE}, (0, MORE), [None], [True], [0], ["0"], [()], [(0,)],
    [(0, MORE, 0)], [(MORE, 0)], [[0, MORE]], [{0: MORE}], [(True, MORE)], [(False, MORE)], [(3, MORE)], [(-1, MORE)],
    [(10 ** 20, MORE)], [(None, MORE)], [("0", MORE)], [((0,), MORE)], [([0], MORE)], [(0, None)], [(0, 0)], [(0, ())],
    [(0, list(MORE))], [(0, (["stop", 9],))], [(0, ("stop", 9))], [(0, (("stop", True),))], [(0, (("stop", 100),))],
    [(0, (("far", 3),))], [(2, (("far", 4),))], [(0, (("far", True),))], [(0, (("jump", False),))],
    [(0, (("stop", 1),) * 21)], [(0, BOOK)], [(0, MORE), (1, MORE), (3, MORE)], [(3, MORE), (0, MORE)],
    [(0, MORE), None], [(0, MORE)] * 7, [(0, MORE)] * 2000, [(0, MORE)] * 6 + [None], [[]], nested(list, 10),
)


def some_edit(numbers, book, size=20):
    """Some edit of the book."""
    while True:
        p = numbers.below(len(book))
        part = some_book(numbers, len(book), size=size)[p]
        if is_book(put(book, p, part)):
            return p, part


class TestReserve(unittest.TestCase):

    def check(self, edits, room, reasons, book=BOOK, machine=MACHINE):
        with self.subTest(book=book, machine=machine, edits=edits):
            self.assertEqual(reserve(book, machine, edits), (room, reasons))

    def test_the_answer_is_a_tuple_of_two_lists(self):
        for edits in ([], [(1, (("stop", 60),))]):
            answer = reserve(BOOK, MACHINE, edits)
            self.assertIs(type(answer), tuple)
            self.assertEqual([type(one) for one in answer], [list, list])
            self.assertEqual({type(number) for number in answer[0]}, {int})
            self.assertLessEqual({type(number) for number in answer[1]}, {int, type(None)})

    def test_no_edits(self):
        self.check([], [0, 0, 0], [None, None, None])
        for many in range(1, 6):
            self.check([], [0] * many, [None] * many, stops(*[1] * many))

    def test_one_edit(self):
        self.check([(0, MORE)], [4, 0, 0], [0, None, None])
        self.check([(1, (("stop", 99),))], [0, 79, 0], [None, 0, None])
        self.check([(2, (("stop", 41),))], [0, 0, 1], [None, None, 0])

    def test_edits_that_make_a_part_smaller_or_as_great(self):
        self.check([(0, LESS)], [0, 0, 0], [None, None, None])
        self.check([(0, AS_GREAT)], [0, 0, 0], [None, None, None])
        self.check([(0, BOOK[0]), (1, BOOK[1]), (2, LESS)], [0, 0, 0], [None, None, None])

    def test_the_first_of_the_greatest(self):
        self.check([(0, MORE), (0, MORE)], [4, 0, 0], [0, None, None])
        self.check([(0, LESS), (0, (("stop", 8),)), (0, MORE), (0, (("far", 1), ("stop", 7)))], [4, 0, 0],
                   [2, None, None])
        self.check([(0, (("stop", 8),)), (0, LESS), (0, (("stop", 7),))], [3, 0, 0], [0, None, None])
        self.check([(0, AS_GREAT), (0, MORE), (0, (("stop", 10),)), (0, MORE), (0, (("stop", 10),)), (0, AS_GREAT)],
                   [5, 0, 0], [2, None, None])

    def test_edits_of_several_parts(self):
        edits = [(2, (("stop", 41),)), (0, LESS), (2, (("stop", 50),)), (1, (("stop", 21),)), (0, MORE), (2, MORE)]
        self.check(edits, [4, 1, 10], [4, 3, 2])
        self.check(edits[::-1], [4, 1, 10], [1, 2, 3])
        self.check(edits[:4], [0, 1, 10], [None, 3, 2])

    def test_each_edit_is_one_of_the_book_as_it_is(self):
        # Edits are not made one behind the other: each one is compared with the part of the book.
        self.check([(0, (("stop", 50),)), (0, (("stop", 60),))], [55, 0, 0], [1, None, None])

    def test_sizes_are_those_of_the_parts_as_laid(self):
        part = (("branch", 3), ("plain", 8, 0), ("jump", 0), ("stop", 1))
        self.check([(0, part)], [10, 0, 0], [0, None, None])
        self.check([(0, part)], [6, 0, 0], [0, None, None], machine=machine_with(reach=10))
        # All short the part has 28 bytes, with its 17 long rows 62.
        self.check([(1, CASCADE)], [0, 42, 0], [None, 0, None], machine=CASCADE_MACHINE)
        self.check([(1, CASCADE)], [0, 8, 0], [None, 0, None], machine=machine_with(reach=99))

    def test_parts_with_align(self):
        part = (("branch", 4), ("branch", 4), ("plain", 9, 1), ("align", 16), ("stop", 1))
        self.check([(0, part)], [12, 0, 0], [0, None, None], machine=machine_with(reach=13))
        self.check([(0, (("plain", 17, 0),) + part[3:])], [28, 0, 0], [0, None, None])
        book = (part, (("far", 0),))
        self.check([(0, part)], [0, 0], [None, None], book, machine_with(reach=13))
        self.check([(0, (("stop", 18),)), (1, part)], [1, 15], [0, 1], book, machine_with(reach=13))

    def test_edits_with_far_rows_to_parts_that_are_there(self):
        self.check([(0, (("far", 2),) * 3)], [1, 0, 0], [0, None, None])
        self.check([(0, (("far", 2),) * 3)], [22, 0, 0], [0, None, None], machine=machine_with(far=9))

    def test_loads_and_words_take_their_bytes(self):
        part = (("load", 1), ("stop", 1), ("word", 1), ("word", 2))
        self.check([(0, part)], [6, 0, 0], [0, None, None])
        self.check([(0, part)], [17, 0, 0], [0, None, None], machine=machine_with(load=7, word=7))

    def test_room_is_what_is_lacking(self):
        numbers = Numbers(150)
        for _ in range(100):
            book, machine = some_book(numbers, 1 + numbers.below(5)), some_machine(numbers)
            edits = [some_edit(numbers, book) for _ in range(numbers.below(7))]
            room, reasons = reserve(book, machine, edits)
            for p, part in edits:
                self.assertLessEqual(laid(part, machine)[1][-1], laid(book[p], machine)[1][-1] + room[p])
            for p, number in enumerate(reasons):
                if number is not None:
                    self.assertEqual(edits[number][0], p)

    def test_many_told_again(self):
        numbers = Numbers(151)
        kinds = {"none": 0, "some": 0, "later": 0}
        for _ in range(500):
            book, machine = some_book(numbers, 1 + numbers.below(5)), some_machine(numbers)
            edits = [some_edit(numbers, book) for _ in range(numbers.below(7))]
            room, reasons = reserve_told(book, machine, edits)
            self.check(edits, room, reasons, book, machine)
            kinds["none"] += reasons.count(None)
            kinds["some"] += len(reasons) - reasons.count(None)
            kinds["later"] += sum(number is not None and number > 0 for number in reasons)
        self.assertGreater(min(kinds.values()), 100, kinds)


class TestWrongArguments(unittest.TestCase):

    def check(self, error, **wrong):
        given = {"book": BOOK, "machine": MACHINE, "edits": []}
        given.update(wrong)
        with self.subTest(wrong=repr(wrong)[:200]):
            self.assertIs(refusal(reserve, *given.values()), error)

    def test_edits_that_are_none(self):
        for edits in BAD_EDITS:
            self.check(NoEdits, edits=edits)

    def test_six_edits_at_the_most(self):
        for many in range(9):
            self.check(None if many <= 6 else NoEdits, edits=[(0, MORE)] * many)
            self.check(None if many <= 6 else NoEdits, edits=[(many % 3, MORE)] * many)

    def test_each_part_that_there_is(self):
        for many in range(1, 6):
            for p in range(-1, 7):
                self.check(None if 0 <= p < many else NoEdits, book=stops(*[1] * many), edits=[(p, MORE)])

    def test_each_far_row(self):
        for many in range(1, 6):
            for goal in range(5):
                edits = [(many - 1, (("stop", 1), ("far", goal)))]
                self.check(None if goal < many else NoEdits, book=stops(*[1] * many), edits=edits)

    def test_the_order_of_the_errors(self):
        for edits in BAD_EDITS:
            self.check(NoMachine, machine=None, edits=edits)
            self.check(NoBook, book=list(BOOK), edits=edits)
            self.check(NoBook, book=None, machine=None, edits=edits)

    def test_odd_values(self):
        for value in odd_values():
            self.check(NoBook, book=value)
            self.check(NoMachine, machine=value)
            self.check(None if value == [] else NoEdits, edits=value)
            self.check(NoEdits, edits=[value])
            self.check(None if is_integer(value) and 0 <= value <= 2 else NoEdits, edits=[(value, MORE)])
            self.check(NoEdits, edits=[(0, value)])
            self.check(NoEdits, edits=[(0, MORE), value])


if __name__ == "__main__":
    unittest.main()
