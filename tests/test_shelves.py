"""[16]: shelves, call by call."""

import itertools
import unittest

from reachrows.errors import NoBook, NoChange, NoEdits, NoMachine, NoNumber, NoOrder, NoPart
from reachrows.shelves import Shelf
from tests.support import MACHINE, is_integer, machine_with, nested, odd_things, odd_values, refusal
from tests.test_extents import BAD_ORDERS, stops
from tests.test_reserve import BAD_EDITS, BOOK, LESS, MORE

IN_LINE = [0, 1, 2]
ALIGNED = (("branch", 4), ("branch", 4), ("plain", 9, 1), ("align", 16), ("stop", 1))
BAD_PARTS = (
    None, True, (), [], list(MORE), (["stop", 1],), (("stop", True),), (("stop", 100),), ("stop", 1), (("far", 5),),
    (("jump", 1),), (("plain", 1, 0),), {}, 0, "", (("stop", 1),) * 21, nested(tuple, 10),
)
NO_NUMBERS = (None, True, False, -1, 3, 4, 5, 10 ** 20, -10 ** 20, "0", "", (), (0,), [], [0], {}, {0: 0})


def stop(size):
    """A part of this size."""
    return (("stop", size),)


def shelf_of(order=(0, 1, 2), edits=(), book=BOOK, machine=MACHINE):
    """A new shelf."""
    return Shelf(book, machine, list(order), list(edits))


def whole(shelf):
    """All that a shelf tells."""
    return shelf.as_book(), shelf.firsts(), shelf.moves(0), len(shelf)


class TestMaking(unittest.TestCase):

    def check(self, firsts, order=(0, 1, 2), edits=(), book=BOOK, machine=MACHINE):
        with self.subTest(book=book, order=order, edits=edits):
            self.assertEqual(whole(shelf_of(order, edits, book, machine)), (book, firsts, [], 0))

    def test_the_kinds_of_values(self):
        shelf = shelf_of()
        self.assertIs(type(shelf), Shelf)
        self.assertIs(type(shelf.as_book()), tuple)
        self.assertIs(type(shelf.firsts()), list)
        self.assertEqual({type(first) for first in shelf.firsts()}, {int})
        self.assertIs(type(shelf.moves(0)), list)
        self.assertIs(type(len(shelf)), int)
        self.assertIs(shelf == shelf_of(), True)
        self.assertIs(shelf == BOOK, False)

    def test_each_order(self):
        self.check([0, 16, 48])
        self.check([0, 64, 16], [0, 2, 1])
        self.check([32, 0, 48], [1, 0, 2])
        self.check([80, 0, 32], [1, 2, 0])
        self.check([48, 64, 0], [2, 0, 1])
        self.check([80, 48, 0], [2, 1, 0])

    def test_books_of_one_to_five_parts(self):
        for many in range(1, 6):
            self.check([16 * number for number in range(many)], range(many), [], stops(*[9] * many))

    def test_the_room_of_edits(self):
        self.check([0, 16, 48], edits=[(0, stop(16)), (1, stop(32))])
        self.check([0, 32, 64], edits=[(0, stop(17))])
        self.check([0, 32, 80], edits=[(0, stop(17)), (1, stop(33)), (0, stop(3)), (2, stop(99))])
        self.check([0, 16, 48], edits=[(0, LESS), (1, stop(1)), (2, stop(99))])
        self.check([160, 112, 0], [2, 1, 0], [(2, stop(99)), (1, stop(40))])

    def test_sizes_are_those_of_the_parts_as_laid(self):
        machine = machine_with(reach=13)
        self.check([0, 32, 64], book=(ALIGNED,) * 3, machine=machine)
        self.check([0, 16, 48], edits=[(1, ALIGNED)], machine=machine)
        self.check([0, 32, 64], edits=[(0, ALIGNED), (1, ALIGNED)], machine=machine, book=stops(5, 1, 1))


class TestEdit(unittest.TestCase):

    def check(self, shelf, p, part, book, firsts, moves):
        """Edit the shelf, which then has this book and these firsts, behind these new moves."""
        many, told = len(shelf), shelf.moves(0)
        with self.subTest(p=p, part=part):
            self.assertIs(shelf.edit(p, part), None)
            self.assertEqual(whole(shelf), (book, firsts, told + moves, many + 1))
            self.assertEqual(shelf.moves(len(told)), moves)

    def test_a_greater_part_moves_those_behind_it(self):
        self.check(shelf_of(), 0, stop(17), stops(17, 20, 40), [0, 32, 64], [(1, 16, 32), (2, 48, 64)])
        self.check(shelf_of(), 1, stop(33), stops(5, 33, 40), [0, 16, 64], [(2, 48, 64)])
        self.check(shelf_of(), 2, stop(99), stops(5, 20, 99), [0, 16, 48], [])

    def test_those_behind_it_in_the_order(self):
        self.check(shelf_of([2, 0, 1]), 0, stop(17), stops(17, 20, 40), [48, 80, 0], [(1, 64, 80)])
        self.check(shelf_of([2, 1, 0]), 2, stop(49), stops(5, 20, 49), [96, 64, 0], [(0, 80, 96), (1, 48, 64)])
        self.check(shelf_of([1, 2, 0]), 0, stop(99), stops(99, 20, 40), [80, 0, 32], [])

    def test_only_if_they_must(self):
        # The part takes the bytes ahead of the next multiple of 16.
        self.check(shelf_of(), 0, stop(16), stops(16, 20, 40), [0, 16, 48], [])
        self.check(shelf_of(), 1, stop(32), stops(5, 32, 40), [0, 16, 48], [])
        self.check(shelf_of(), 1, stop(33), stops(5, 33, 40), [0, 16, 64], [(2, 48, 64)])

    def test_a_smaller_part_occupies_what_was_occupied(self):
        shelf = shelf_of()
        self.check(shelf, 1, stop(1), stops(5, 1, 40), [0, 16, 48], [])
        self.check(shelf, 1, stop(20), stops(5, 20, 40), [0, 16, 48], [])
        self.check(shelf, 1, stop(40), stops(5, 40, 40), [0, 16, 64], [(2, 48, 64)])
        self.check(shelf, 1, stop(1), stops(5, 1, 40), [0, 16, 64], [])
        self.check(shelf, 1, stop(48), stops(5, 48, 40), [0, 16, 64], [])
        self.check(shelf, 1, stop(49), stops(5, 49, 40), [0, 16, 80], [(2, 64, 80)])

    def test_reserved_edits_move_nothing(self):
        edits = [(0, stop(60)), (1, stop(70)), (0, ALIGNED)]
        shelf = shelf_of(edits=edits)
        self.assertEqual(shelf.firsts(), [0, 64, 144])
        for p, part in edits + edits[::-1]:
            book = shelf.as_book()
            self.check(shelf, p, part, book[:p] + (part,) + book[p + 1:], [0, 64, 144], [])
        self.check(shelf, 0, stop(65), (stop(65), stop(70), BOOK[2]), [0, 80, 160], [(1, 64, 80), (2, 144, 160)])

    def test_a_part_that_was_not_reserved_for_but_is_no_greater(self):
        shelf = shelf_of(edits=[(0, stop(60))])
        part = (("branch", 1), ("stop", 57))
        self.check(shelf, 0, part, (part,) + BOOK[1:], [0, 64, 96], [])
        self.check(shelf, 0, stop(64), stops(64, 20, 40), [0, 64, 96], [])
        self.check(shelf, 0, stop(65), stops(65, 20, 40), [0, 80, 112], [(1, 64, 80), (2, 96, 112)])

    def test_each_edit_tells_its_moves_from_where_the_parts_were(self):
        shelf = shelf_of([2, 1, 0])
        self.check(shelf, 2, stop(49), stops(5, 20, 49), [96, 64, 0], [(0, 80, 96), (1, 48, 64)])
        self.check(shelf, 1, stop(33), stops(5, 33, 49), [112, 64, 0], [(0, 96, 112)])
        self.check(shelf, 2, stop(65), stops(5, 33, 65), [128, 80, 0], [(0, 112, 128), (1, 64, 80)])
        self.assertEqual(shelf.moves(0), [(0, 80, 96), (1, 48, 64), (0, 96, 112), (0, 112, 128), (1, 64, 80)])

    def test_the_same_part_again_is_an_edit(self):
        shelf = shelf_of()
        for _ in range(3):
            self.check(shelf, 0, BOOK[0], BOOK, [0, 16, 48], [])

    def test_parts_with_align(self):
        shelf = shelf_of(machine=machine_with(reach=13), book=stops(5, 5, 5))
        self.check(shelf, 1, ALIGNED, (stop(5), ALIGNED, stop(5)), [0, 16, 48], [(2, 32, 48)])
        part = (("plain", 17, 0),) + ALIGNED[3:]
        self.check(shelf, 1, part, (stop(5), part, stop(5)), [0, 16, 64], [(2, 48, 64)])
        self.check(shelf, 1, ALIGNED, (stop(5), ALIGNED, stop(5)), [0, 16, 64], [])

    def test_sizes_are_those_of_the_parts_as_laid(self):
        part = (("branch", 3), ("plain", 8, 0), ("jump", 0), ("stop", 2))
        self.check(shelf_of(machine=machine_with(reach=10)), 0, part, (part,) + BOOK[1:], [0, 16, 48], [])
        moves = [(1, 16, 32), (2, 48, 64)]
        part = part[:3] + (("stop", 3),)
        self.check(shelf_of(machine=machine_with(reach=9)), 0, part, (part,) + BOOK[1:], [0, 32, 64], moves)

    def test_arguments_by_their_names(self):
        shelf, other = shelf_of(), shelf_of()
        self.assertIs(shelf.edit(part=stop(17), p=0), None)
        other.edit(0, part=stop(17))
        self.assertEqual(whole(shelf), (stops(17, 20, 40), [0, 32, 64], [(1, 16, 32), (2, 48, 64)], 1))
        self.assertEqual(whole(other), whole(shelf))
        self.assertEqual(shelf.moves(n=1), [(2, 48, 64)])
        shelf = Shelf(edits=[(0, stop(17))], order=[2, 1, 0], machine=MACHINE, book=BOOK)
        self.assertIs(shelf == Shelf(BOOK, MACHINE, [2, 1, 0], [(0, stop(17))]), True)

    def test_far_rows_to_parts_that_are_there(self):
        part = (("far", 2), ("far", 0))
        self.check(shelf_of(), 1, part, (BOOK[0], part, BOOK[2]), [0, 16, 48], [])

    def test_one_part_never_moves(self):
        shelf = shelf_of([0], [], stops(5))
        for size in (99, 1, 50):
            self.check(shelf, 0, stop(size), stops(size), [0], [])


class TestUndo(unittest.TestCase):

    def check(self, shelf, book, firsts, moves):
        """Undo an edit of the shelf, which then has this book and these firsts, behind these new moves."""
        many, told = len(shelf), shelf.moves(0)
        with self.subTest(book=book):
            self.assertIs(shelf.undo(), None)
            self.assertEqual(whole(shelf), (book, firsts, told + moves, many - 1))

    def test_a_greater_part(self):
        shelf = shelf_of()
        shelf.edit(0, stop(17))
        self.check(shelf, BOOK, [0, 16, 48], [(1, 32, 16), (2, 64, 48)])
        self.assertEqual(shelf.moves(0), [(1, 16, 32), (2, 48, 64), (1, 32, 16), (2, 64, 48)])

    def test_a_smaller_part(self):
        shelf = shelf_of()
        shelf.edit(1, stop(1))
        self.check(shelf, BOOK, [0, 16, 48], [])

    def test_what_was_occupied_is_taken_back(self):
        shelf = shelf_of()
        shelf.edit(1, stop(60))
        shelf.undo()
        # Nothing is left of the 60 bytes: 33 are more than what is there.
        shelf.edit(1, stop(33))
        self.assertEqual(shelf.firsts(), [0, 16, 64])
        self.check(shelf, BOOK, [0, 16, 48], [(2, 64, 48)])

    def test_what_was_occupied_ahead_of_the_edit_stays(self):
        shelf = shelf_of()
        shelf.edit(1, stop(60))
        shelf.edit(1, stop(1))
        self.check(shelf, stops(5, 60, 40), [0, 16, 80], [])
        shelf.edit(1, stop(1))
        shelf.edit(1, stop(70))
        self.check(shelf, stops(5, 1, 40), [0, 16, 80], [(2, 96, 80)])
        self.check(shelf, stops(5, 60, 40), [0, 16, 80], [])
        self.check(shelf, BOOK, [0, 16, 48], [(2, 80, 48)])

    def test_reserved_room_stays(self):
        shelf = shelf_of(edits=[(1, stop(60))])
        shelf.edit(1, stop(60))
        self.check(shelf, BOOK, [0, 16, 80], [])
        shelf.edit(1, stop(90))
        self.check(shelf, BOOK, [0, 16, 80], [(2, 112, 80)])

    def test_the_last_edit_that_has_not_been_taken_back(self):
        shelf = shelf_of()
        for p, size in ((0, 17), (1, 33), (2, 41), (0, 33)):
            shelf.edit(p, stop(size))
        self.check(shelf, stops(17, 33, 41), [0, 32, 80], [(1, 48, 32), (2, 96, 80)])
        self.check(shelf, stops(17, 33, 40), [0, 32, 80], [])
        shelf.edit(2, stop(50))
        self.check(shelf, stops(17, 33, 40), [0, 32, 80], [])
        self.check(shelf, stops(17, 20, 40), [0, 32, 64], [(2, 80, 64)])
        self.check(shelf, BOOK, [0, 16, 48], [(1, 32, 16), (2, 64, 48)])
        self.assertIs(refusal(shelf.undo), NoChange)

    def test_edits_behind_an_undo(self):
        shelf = shelf_of()
        shelf.edit(0, stop(17))
        shelf.undo()
        shelf.edit(0, stop(33))
        self.assertEqual(whole(shelf)[:2], (stops(33, 20, 40), [0, 48, 80]))
        self.check(shelf, BOOK, [0, 16, 48], [(1, 48, 16), (2, 80, 48)])
        self.assertIs(refusal(shelf.undo), NoChange)

    def test_nothing_to_undo(self):
        for edits in ([], [(0, MORE)]):
            shelf = shelf_of(edits=edits)
            for _ in range(2):
                before = whole(shelf)
                self.assertIs(refusal(shelf.undo), NoChange)
                self.assertEqual(whole(shelf), before)
                shelf.edit(0, MORE)
                shelf.undo()

    def test_moves_ascend_by_parts(self):
        shelf = shelf_of([2, 1, 0])
        shelf.edit(2, stop(49))
        self.check(shelf, BOOK, [80, 48, 0], [(0, 96, 80), (1, 64, 48)])


class TestMoves(unittest.TestCase):

    MOVES = [(0, 80, 96), (1, 48, 64), (0, 96, 112), (0, 112, 96), (0, 96, 80), (1, 64, 48)]

    def moved(self):
        """A shelf that has moved."""
        shelf = shelf_of([2, 1, 0])
        shelf.edit(2, stop(49))
        shelf.edit(1, stop(33))
        shelf.undo()
        shelf.undo()
        return shelf

    def test_behind_the_first_of_them(self):
        shelf = self.moved()
        for n in range(7):
            self.assertEqual(shelf.moves(n), self.MOVES[n:])
        self.assertEqual([type(move) for move in shelf.moves(0)], [tuple] * 6)

    def test_as_often_as_one_likes(self):
        shelf = self.moved()
        for n in (3, 0, 6, 3, 3, 0):
            self.assertEqual(shelf.moves(n), self.MOVES[n:])

    def test_numbers_that_there_are_not(self):
        shelf = self.moved()
        for n in (-1, 7, 8, -6, 10 ** 20, -10 ** 20, None, True, False, "0", "", (), (0,), [], [0], {}, {0: 0}):
            with self.subTest(n=n):
                self.assertIs(refusal(shelf.moves, n), NoNumber)
        self.assertIs(refusal(shelf_of().moves, 0), None)
        self.assertIs(refusal(shelf_of().moves, 1), NoNumber)

    def test_odd_values(self):
        shelf = self.moved()
        for value in odd_values():
            error = None if is_integer(value) and 0 <= value <= 6 else NoNumber
            self.assertIs(refusal(shelf.moves, value), error, repr(value)[:60])


class TestEquality(unittest.TestCase):

    def check(self, shelf, other, answer):
        self.assertIs(shelf == other, answer)
        self.assertIs(other == shelf, answer)
        self.assertIs(shelf != other, not answer)

    def test_equal_shelves(self):
        self.check(shelf_of(), shelf_of(), True)
        shelf = shelf_of()
        self.check(shelf, shelf, True)
        self.check(shelf_of(edits=[(0, MORE)]), shelf_of(edits=[(0, LESS), (0, MORE)]), True)

    def test_other_books(self):
        self.check(shelf_of(), shelf_of(book=((("plain", 4, 0), ("stop", 1)),) + BOOK[1:]), False)
        self.check(shelf_of(), shelf_of([0, 1], [], BOOK[:2]), False)
        shelf = shelf_of()
        shelf.edit(0, (("plain", 4, 0), ("stop", 1)))
        self.check(shelf, shelf_of(), False)
        shelf.edit(0, BOOK[0])
        self.check(shelf, shelf_of(), True)

    def test_other_machines(self):
        for name in ("short", "reach", "long", "far", "leap", "load", "span", "word"):
            machine = machine_with(**{name: 2 if name == "short" else 8})
            self.check(shelf_of(machine=machine), shelf_of(), False)
            self.check(shelf_of(machine=machine), shelf_of(machine=machine), True)

    def test_other_orders(self):
        for one, other in itertools.product(itertools.permutations(range(3)), repeat=2):
            self.check(shelf_of(one), shelf_of(other), one == other)

    def test_other_bytes_occupied(self):
        # All parts have the same addresses, and all the same rows.
        self.check(shelf_of(), shelf_of(edits=[(0, (("stop", 6),))]), False)
        self.check(shelf_of(), shelf_of(edits=[(2, (("stop", 41),))]), False)
        self.check(shelf_of(edits=[(2, stop(41))]), shelf_of(edits=[(2, stop(42))]), False)
        shelf = shelf_of()
        shelf.edit(2, stop(41))
        shelf.edit(2, BOOK[2])
        self.check(shelf, shelf_of(), False)
        self.check(shelf, shelf_of(edits=[(2, stop(41))]), True)

    def test_edits_that_can_be_taken_back_and_moves_mean_nothing(self):
        shelf, other = shelf_of(), shelf_of(book=stops(17, 20, 40))
        shelf.edit(0, stop(17))
        self.check(shelf, other, True)
        self.assertNotEqual(whole(shelf), whole(other))
        shelf.undo()
        self.check(shelf, shelf_of(), True)
        self.assertNotEqual(len(shelf.moves(0)), 0)
        self.check(shelf, other, False)

    def test_shelves_are_not_the_same_for_being_equal(self):
        shelf, other = shelf_of(), shelf_of()
        shelf.edit(0, stop(17))
        self.assertEqual(whole(other), (BOOK, [0, 16, 48], [], 0))
        self.check(shelf, other, False)
        other.edit(0, stop(17))
        self.check(shelf, other, True)

    def test_nothing_else(self):
        shelf = shelf_of()
        things = [BOOK, MACHINE, IN_LINE, (BOOK, MACHINE, IN_LINE, [5, 20, 40]), Shelf, whole(shelf)]
        for thing in odd_things() + things:
            self.assertIs(shelf == thing, False)
            self.assertIs(shelf != thing, True)


class TestWrongArguments(unittest.TestCase):

    def check(self, error, **wrong):
        given = {"book": BOOK, "machine": MACHINE, "order": IN_LINE, "edits": []}
        given.update(wrong)
        with self.subTest(wrong=repr(wrong)[:200]):
            self.assertIs(refusal(Shelf, *given.values()), error)

    def test_each_argument(self):
        self.check(None)
        for order in BAD_ORDERS:
            self.check(NoOrder, order=order)
        for edits in BAD_EDITS:
            self.check(NoEdits, edits=edits)
        for many in range(9):
            self.check(None if many <= 6 else NoEdits, edits=[(2, MORE)] * many)

    def test_the_order_of_the_errors(self):
        for edits in BAD_EDITS:
            for order in BAD_ORDERS:
                self.check(NoOrder, order=order, edits=edits)
            self.check(NoMachine, machine=None, order=None, edits=edits)
            self.check(NoBook, book=None, machine=None, order=None, edits=edits)

    def test_odd_values(self):
        for value in odd_values():
            self.check(NoBook, book=value)
            self.check(NoMachine, machine=value)
            self.check(NoOrder, order=value)
            self.check(NoEdits, edits=value)
            self.check(NoEdits, edits=[value])


class TestWrongChanges(unittest.TestCase):
    """What is refused changes nothing."""

    def setUp(self):
        self.shelf = shelf_of([1, 2, 0], [(0, stop(60))])
        self.shelf.edit(1, stop(33))
        self.shelf.edit(0, stop(61))
        self.shelf.undo()
        self.before = whole(self.shelf)

    def check(self, error, p, part):
        with self.subTest(p=repr(p)[:60], part=repr(part)[:60]):
            self.assertIs(refusal(self.shelf.edit, p, part), error)
            self.assertEqual(whole(self.shelf), self.before)

    def test_no_part_of_this_number(self):
        for p in NO_NUMBERS:
            for part in (MORE,) + BAD_PARTS:
                self.check(NoChange, p, part)

    def test_no_part(self):
        for p in range(3):
            for part in BAD_PARTS:
                self.check(NoPart, p, part)

    def test_no_book(self):
        for p in range(3):
            for goal in (3, 4):
                self.check(NoChange, p, (("far", goal),))
                self.check(NoChange, p, (("stop", 1), ("far", 0), ("far", goal), ("stop", 99)))

    def test_odd_values(self):
        for value in odd_values():
            if not is_integer(value) or not 0 <= value <= 2:
                self.check(NoChange, value, MORE)
                self.check(NoChange, value, value)
            self.check(NoPart, 0, value)

    def test_the_shelf_is_as_it_was(self):
        other = shelf_of([1, 2, 0], [(0, stop(60))])
        other.edit(1, stop(33))
        for p, part in ((3, MORE), (0, None), (0, (("far", 3),)), (None, None)):
            self.assertIsNotNone(refusal(self.shelf.edit, p, part))
            self.assertIs(self.shelf == other, True)
        self.assertIs(refusal(self.shelf.moves, 99), NoNumber)
        self.assertIs(self.shelf == other, True)
        self.shelf.undo()
        self.assertIs(refusal(self.shelf.undo), NoChange)
        self.assertIs(self.shelf == shelf_of([1, 2, 0], [(0, stop(60))]), True)

    def test_a_refused_edit_is_none_to_take_back(self):
        shelf = shelf_of()
        for p, part in ((3, MORE), (0, None), (0, (("far", 3),))):
            self.assertIsNotNone(refusal(shelf.edit, p, part))
        self.assertEqual(len(shelf), 0)
        self.assertIs(refusal(shelf.undo), NoChange)


class TestHandedAndReturned(unittest.TestCase):

    def test_lists_that_were_handed_in_mean_nothing_later(self):
        order, edits = [2, 1, 0], [(2, stop(60)), (1, stop(33))]
        shelf = Shelf(BOOK, MACHINE, order, edits)
        order.reverse()
        edits.append((0, MORE))
        edits[0] = (2, stop(99))
        self.assertIs(shelf == shelf_of([2, 1, 0], [(2, stop(60)), (1, stop(33))]), True)
        self.assertEqual(shelf.firsts(), [112, 64, 0])
        order.clear()
        edits.clear()
        shelf.edit(2, stop(80))
        self.assertEqual(shelf.firsts(), [128, 80, 0])

    def test_lists_that_are_returned_are_new(self):
        shelf = shelf_of([2, 1, 0])
        shelf.edit(2, stop(49))
        for read in (shelf.firsts, lambda: shelf.moves(0), lambda: shelf.moves(1), lambda: shelf.moves(2)):
            before = read()
            changed = read()
            self.assertIsNot(changed, before)
            changed.append(7)
            changed.insert(0, 8)
            self.assertEqual(read(), before)
        shelf.firsts().clear()
        shelf.moves(0).clear()
        shelf.undo()
        self.assertEqual(whole(shelf), (BOOK, [80, 48, 0], [(0, 80, 96), (1, 48, 64), (0, 96, 80), (1, 64, 48)], 0))

    def test_lists_that_were_returned_stay_as_they_are(self):
        shelf = shelf_of([2, 1, 0])
        firsts, moves = shelf.firsts(), shelf.moves(0)
        shelf.edit(2, stop(49))
        self.assertEqual((firsts, moves), ([80, 48, 0], []))


if __name__ == "__main__":
    unittest.main()
