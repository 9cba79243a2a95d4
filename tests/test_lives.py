"""[23]: live books, call by call."""

import itertools
import unittest

from reachrows.cells import cells
from reachrows.errors import (
    NoBook, NoChange, NoDoor, NoIslands, NoLive, NoMachine, NoNumber, NoOrder, NoRoom, NoTwin,
)
from reachrows.lives import Live
from reachrows.shelves import Shelf
from tests.support import MACHINE, is_integer, machine_with, odd_things, odd_values, refusal
from tests.test_doors import DOOR, OPEN, STOP
from tests.test_extents import BAD_ORDERS, BAD_ROOMS, stops
from tests.test_shelves import BAD_PARTS
from tests.test_ways import BAD_ISLANDS

# The second part has a door, and the first one too.
BOOK = ((DOOR, ("far", 1)), OPEN)
CELLS = {0: ("plain", 2, 0), 2: ("far", 2, 16), 16: ("plain", 2, 0), 18: ("stop", 9, 0)}
LEAPING = machine_with(leap=200)


def live_of(book=BOOK, machine=LEAPING, order=None, room=None, islands=()):
    """A new live book."""
    many = len(book)
    return Live(book, machine, list(range(many)) if order is None else list(order), room or [0] * many, list(islands))


def whole(live):
    """All that a live book tells."""
    return live.as_book(), live.image(), live.wrote(0), len(live)


class TestMaking(unittest.TestCase):

    def check(self, book, machine, order, room, islands):
        with self.subTest(book=book, order=order, room=room, islands=islands):
            live = Live(book, machine, order, room, islands)
            self.assertEqual(whole(live), (book, cells(book, machine, order, room, islands), [], 0))

    def test_the_kinds_of_values(self):
        live = live_of()
        self.assertIs(type(live), Live)
        self.assertEqual(whole(live), (BOOK, CELLS, [], 0))
        self.assertEqual([type(one) for one in whole(live)], [tuple, dict, list, int])
        self.assertIs(live == live_of(), True)
        self.assertIs(live == BOOK, False)

    def test_books_orders_rooms_and_islands(self):
        self.check(BOOK, LEAPING, [0, 1], [0, 0], [])
        self.check(BOOK, LEAPING, [0, 1], [9, 15], [(0, 1), (1, 0), (1, 1)])
        self.check(stops(5, 6, 7, 8, 9), MACHINE, [0, 4, 2, 1, 3], [1, 2, 3, 4, 5], [])
        self.check(((STOP,),), MACHINE, [0], [9999], [(0, 0)])

    def test_no_cells(self):
        for book, machine in ((BOOK, machine_with(leap=26)), (((("load", 1), STOP), OPEN), LEAPING),
                              ((OPEN, (STOP, ("far", 1))), machine_with(leap=2))):
            self.assertIs(refusal(Live, book, machine, [0, 1], [0, 0], []), NoLive)
        self.assertIs(refusal(Live, BOOK, machine_with(leap=27), [0, 1], [0, 0], []), None)
        self.assertIs(refusal(Live, BOOK, machine_with(leap=27), [0, 1], [0, 1], []), NoLive)
        self.assertIs(refusal(Live, BOOK, machine_with(leap=27), [0, 1], [0, 0], [(1, 0)]), NoLive)
        # An island that cannot come to its goal is no matter.
        self.assertIs(refusal(Live, stops(5, 5), machine_with(leap=1), [0, 1], [0, 0], [(0, 1)]), None)


class TestSwitch(unittest.TestCase):

    def check(self, live, p, part, book, image, writes):
        """Switch, and hold what the live book tells against this book, this image and these new writes."""
        many, told = len(live), live.wrote(0)
        with self.subTest(p=p, part=part):
            self.assertIs(live.switch(p, part), None)
            self.assertEqual(whole(live), (book, image, told + writes, many + 1))
            self.assertEqual(live.wrote(len(told)), writes)

    def test_one_part(self):
        live = live_of((OPEN,), MACHINE)
        image = {0: ("far", 2, 16), 2: ("stop", 9, 0), 16: ("stop", 4, 0)}
        writes = [(16, ("stop", 4, 0)), (0, ("far", 2, 16))]
        self.check(live, 0, (("stop", 4),), ((("far", 1), ("stop", 9)), (("stop", 4),)), image, writes)

    def test_each_part(self):
        part = (("plain", 3, 5), ("jump", 0))
        image = {**CELLS, 16: ("far", 2, 32), 32: ("plain", 3, 5), 35: ("jump", 1, 32)}
        writes = [(32, ("plain", 3, 5)), (35, ("jump", 1, 32)), (16, ("far", 2, 32))]
        self.check(live_of(), 1, part, (BOOK[0], (("far", 2), ("stop", 9)), part), image, writes)
        image = {**CELLS, 0: ("far", 2, 32), 32: ("plain", 3, 5), 35: ("jump", 1, 32)}
        writes = writes[:2] + [(0, ("far", 2, 32))]
        self.check(live_of(), 0, part, ((("far", 2), ("far", 1)), OPEN, part), image, writes)

    def test_cells_to_which_no_run_comes_are_written_behind_the_door(self):
        part = (STOP, ("stop", 2), ("word", 7))
        image = {**CELLS, 0: ("far", 2, 32), 32: ("stop", 1, 0), 33: ("stop", 2, 0), 35: ("word", 4, 7)}
        writes = [(32, ("stop", 1, 0)), (0, ("far", 2, 32)), (33, ("stop", 2, 0)), (35, ("word", 4, 7))]
        self.check(live_of(), 0, part, ((("far", 2), ("far", 1)), OPEN, part), image, writes)

    def test_a_door_to_which_no_run_comes(self):
        book = ((STOP,), OPEN)
        image = {0: ("stop", 1, 0), 16: ("far", 2, 32), 18: ("stop", 9, 0), 32: ("stop", 1, 0)}
        writes = [(16, ("far", 2, 32)), (32, ("stop", 1, 0))]
        self.check(live_of(book), 1, (STOP,), ((STOP,), (("far", 2), ("stop", 9)), (STOP,)), image, writes)

    def test_the_other_part_lies_behind_all_parts_and_their_room(self):
        live = live_of(BOOK, LEAPING, [0, 1], [1, 22])
        image = {**CELLS, 0: ("far", 2, 64), 64: ("stop", 1, 0)}
        writes = [(64, ("stop", 1, 0)), (0, ("far", 2, 64))]
        self.check(live, 0, (STOP,), ((("far", 2), ("far", 1)), OPEN, (STOP,)), image, writes)
        # No room is kept behind it.
        image = {**image, 16: ("far", 2, 80), 80: ("stop", 2, 0)}
        book = ((("far", 2), ("far", 1)), (("far", 3), ("stop", 9)), (STOP,), (("stop", 2),))
        # From 0 no run comes to part 1 any more.
        writes = [(16, ("far", 2, 80)), (80, ("stop", 2, 0))]
        self.check(live, 1, (("stop", 2),), book, image, writes)

    def test_the_order_of_the_parts(self):
        live = live_of((OPEN, (STOP,), (STOP,)), LEAPING, [0, 2, 1])
        image = {0: ("far", 2, 48), 2: ("stop", 9, 0), 16: ("stop", 1, 0), 32: ("stop", 1, 0), 48: ("stop", 3, 0)}
        book = ((("far", 3), ("stop", 9)), (STOP,), (STOP,), (("stop", 3),))
        self.check(live, 0, (("stop", 3),), book, image, [(48, ("stop", 3, 0)), (0, ("far", 2, 48))])

    def test_a_part_that_goes_to_others_and_to_itself(self):
        part = (("branch", 2), ("far", 0), ("far", 1), ("far", 2))
        image = {
            **CELLS, 0: ("far", 2, 32), 32: ("branch", 1, 35), 33: ("far", 2, 0), 35: ("far", 2, 16),
            37: ("far", 2, 32),
        }
        writes = [(32, ("branch", 1, 35)), (33, ("far", 2, 0)), (35, ("far", 2, 16)), (0, ("far", 2, 32)),
                  (37, ("far", 2, 32))]
        self.check(live_of(), 0, part, ((("far", 2), ("far", 1)), OPEN, part), image, writes)

    def test_ways_by_islands(self):
        # Part 2 comes to part 0 only by the island in part 1.
        book, part, machine = ((("far", 1),), OPEN), (("far", 0), STOP), machine_with(leap=30)
        self.assertIs(refusal(live_of(book, machine).switch, 1, part), NoLive)
        image = {
            0: ("far", 2, 16), 16: ("far", 2, 32), 18: ("stop", 9, 0), 27: ("island", 2, 0), 32: ("far", 2, 27),
            34: ("stop", 1, 0),
        }
        writes = [(32, ("far", 2, 27)), (16, ("far", 2, 32)), (34, ("stop", 1, 0))]
        answer = (book[0], (("far", 2), ("stop", 9)), part)
        self.check(live_of(book, machine, islands=[(1, 0)]), 1, part, answer, image, writes)

    def test_one_behind_the_other(self):
        live = live_of((OPEN,), LEAPING)
        image = {0: ("far", 2, 16), 2: ("stop", 9, 0), 16: ("plain", 2, 0), 18: ("stop", 9, 0)}
        through = (("far", 1), ("stop", 9))
        writes = [(16, ("plain", 2, 0)), (18, ("stop", 9, 0)), (0, ("far", 2, 16))]
        self.check(live, 0, OPEN, (through, OPEN), image, writes)
        image = {**image, 16: ("far", 2, 32), 32: ("stop", 1, 0)}
        book = (through, (("far", 2), ("stop", 9)), (STOP,))
        self.check(live, 1, (STOP,), book, image, [(32, ("stop", 1, 0)), (16, ("far", 2, 32))])

    def test_arguments_by_their_names(self):
        live, other = live_of(), live_of()
        self.assertIs(live.switch(part=(STOP,), p=1), None)
        other.switch(1, part=(STOP,))
        writes = [(32, ("stop", 1, 0)), (16, ("far", 2, 32))]
        book = (BOOK[0], (("far", 2), ("stop", 9)), (STOP,))
        self.assertEqual(whole(live), (book, {**CELLS, 16: ("far", 2, 32), 32: ("stop", 1, 0)}, writes, 1))
        self.assertEqual(whole(other), whole(live))
        self.assertEqual(live.wrote(k=1), writes[1:])
        live = Live(islands=[(0, 1)], room=[1, 2], order=[0, 1], machine=LEAPING, book=BOOK)
        self.assertIs(live == live_of(room=[1, 2], islands=[(0, 1)]), True)

    def test_up_to_five_parts(self):
        live = live_of((OPEN,), LEAPING)
        for p in range(4):
            live.switch(p, OPEN)
        self.assertEqual(len(live.as_book()), 5)
        self.assertEqual(len(live), 4)
        self.assertIs(refusal(live.switch, 4, OPEN), NoTwin)


class TestUndo(unittest.TestCase):

    def check(self, live, book, image, writes):
        """Undo a switch, and hold what the live book tells against this book, this image and these new writes."""
        many, told = len(live), live.wrote(0)
        with self.subTest(book=book):
            self.assertIs(live.undo(), None)
            self.assertEqual(whole(live), (book, image, told + writes, many - 1))

    def test_the_door_first_and_then_the_other_part(self):
        live = live_of()
        live.switch(0, (("plain", 3, 5), STOP, STOP))
        writes = [(0, ("plain", 2, 0)), (32, None), (35, None), (36, None)]
        self.check(live, BOOK, CELLS, writes)
        self.assertEqual(live.wrote(4), writes)
        self.assertIs(live == live_of(), True)

    def test_a_door_to_which_no_run_comes(self):
        book = ((STOP,), OPEN)
        live = live_of(book)
        image = live.image()
        live.switch(1, (STOP,))
        self.check(live, book, image, [(16, ("plain", 2, 0)), (32, None)])

    def test_the_last_switch_that_has_not_been_taken_back(self):
        live = live_of((OPEN,))
        live.switch(0, OPEN)
        book, image = live.as_book(), live.image()
        live.switch(1, (STOP,))
        self.check(live, book, image, [(16, ("plain", 2, 0)), (32, None)])
        live.switch(1, (("stop", 2),))
        self.check(live, book, image, [(16, ("plain", 2, 0)), (32, None)])
        writes = [(0, ("plain", 2, 0)), (16, None), (18, None)]
        self.check(live, (OPEN,), {0: ("plain", 2, 0), 2: ("stop", 9, 0)}, writes)
        self.assertIs(refusal(live.undo), NoChange)

    def test_a_switch_behind_an_undo(self):
        live = live_of((OPEN,))
        live.switch(0, (STOP,))
        live.undo()
        live.switch(0, (("stop", 3),))
        self.assertEqual(live.as_book(), ((("far", 1), ("stop", 9)), (("stop", 3),)))
        self.assertEqual(live.wrote(4), [(16, ("stop", 3, 0)), (0, ("far", 2, 16))])
        self.check(live, (OPEN,), {0: ("plain", 2, 0), 2: ("stop", 9, 0)}, [(0, ("plain", 2, 0)), (16, None)])

    def test_nothing_to_undo(self):
        live = live_of()
        for _ in range(2):
            before = whole(live)
            self.assertIs(refusal(live.undo), NoChange)
            self.assertEqual(whole(live), before)
            live.switch(0, (STOP,))
            live.undo()


class TestWrote(unittest.TestCase):

    WRITES = [
        (32, ("stop", 1, 0)), (0, ("far", 2, 32)), (0, ("plain", 2, 0)), (32, None), (32, ("stop", 1, 0)),
        (16, ("far", 2, 32)),
    ]

    def written(self):
        """A live book that has written."""
        live = live_of()
        live.switch(0, (STOP,))
        live.undo()
        live.switch(1, (STOP,))
        return live

    def test_behind_the_first_of_them(self):
        live = self.written()
        for k in (3, 0, 1, 2, 6, 5, 4, 3, 0):
            self.assertEqual(live.wrote(k), self.WRITES[k:])
        self.assertEqual([type(write) for write in live.wrote(0)], [tuple] * 6)

    def test_numbers_that_there_are_not(self):
        live = self.written()
        for k in (-1, 7, 8, -6, 10 ** 20, -10 ** 20, None, True, False, "0", "", (), (0,), [], [0], {}, {0: 0}):
            with self.subTest(k=k):
                self.assertIs(refusal(live.wrote, k), NoNumber)
        self.assertIs(refusal(live_of().wrote, 0), None)
        self.assertIs(refusal(live_of().wrote, 1), NoNumber)

    def test_odd_values(self):
        live = self.written()
        for value in odd_values():
            error = None if is_integer(value) and 0 <= value <= 6 else NoNumber
            self.assertIs(refusal(live.wrote, value), error, repr(value)[:60])


class TestEquality(unittest.TestCase):

    def check(self, live, other, answer):
        self.assertIs(live == other, answer)
        self.assertIs(other == live, answer)
        self.assertIs(live != other, not answer)

    def test_equal_live_books(self):
        self.check(live_of(), live_of(), True)
        live = live_of()
        self.check(live, live, True)
        self.check(live_of(room=[1, 2], islands=[(0, 1)]), live_of(room=[1, 2], islands=[(0, 1)]), True)

    def test_other_books(self):
        self.check(live_of(), live_of((BOOK[0], (DOOR, ("stop", 8)))), False)
        self.check(live_of(), live_of(BOOK + ((STOP,),)), False)
        # These have the same cells.
        self.check(live_of(((("align", 2), STOP),)), live_of(((STOP,),)), False)

    def test_other_machines(self):
        book = ((STOP,), (("stop", 9),))
        for name in ("short", "reach", "long", "far", "leap", "load", "span", "word"):
            machine = machine_with(**{name: 2 if name == "short" else 8})
            self.check(live_of(book, machine), live_of(book, MACHINE), False)
            self.check(live_of(book, machine), live_of(book, machine), True)

    def test_other_orders(self):
        book = ((STOP,), (STOP,), (STOP,), (STOP,))
        for one, other in itertools.product(itertools.permutations(range(1, 4)), repeat=2):
            self.check(live_of(book, order=(0,) + one), live_of(book, order=(0,) + other), one == other)

    def test_other_rooms(self):
        for one, other in itertools.product([[0, 0], [0, 1], [1, 0], [1, 1], [0, 9999]], repeat=2):
            book = ((STOP,), (STOP,))
            self.check(live_of(book, room=one), live_of(book, room=other), one == other)

    def test_other_islands(self):
        some = [[], [(0, 0)], [(0, 1)], [(1, 0)], [(0, 0), (0, 1)], [(0, 1), (1, 0)]]
        for one, other in itertools.product(some, repeat=2):
            self.check(live_of(islands=one), live_of(islands=other), one == other)

    def test_switches(self):
        live, other = live_of(), live_of()
        live.switch(0, (STOP,))
        self.check(live, other, False)
        other.switch(0, (("stop", 2),))
        self.check(live, other, False)
        other.undo()
        other.switch(1, (STOP,))
        self.check(live, other, False)
        other.undo()
        self.check(other, live_of(), True)
        other.switch(0, (STOP,))
        self.check(live, other, True)

    def test_switches_that_can_be_taken_back_and_writes_mean_nothing(self):
        live, other = live_of(), live_of(((("far", 2), ("far", 1)), OPEN, (STOP,)))
        live.switch(0, (STOP,))
        self.check(live, other, True)
        self.assertNotEqual((len(live), live.wrote(0)), (len(other), other.wrote(0)))
        self.assertIs(refusal(other.undo), NoChange)
        live.undo()
        self.check(live, live_of(), True)
        self.check(live, other, False)

    def test_nothing_else(self):
        live = live_of()
        things = [BOOK, LEAPING, CELLS, (BOOK, LEAPING, [0, 1], [0, 0], []), Live, whole(live)]
        for thing in odd_things() + things + [Shelf(BOOK, LEAPING, [0, 1], [])]:
            self.assertIs(live == thing, False)
            self.assertIs(live != thing, True)
            self.assertIs(thing == live, False)


class TestWrongArguments(unittest.TestCase):

    BOOK = stops(5, 20, 40)

    def check(self, error, **wrong):
        given = {"book": self.BOOK, "machine": MACHINE, "order": [0, 2, 1], "room": [0, 0, 0], "islands": []}
        given.update(wrong)
        with self.subTest(wrong=repr(wrong)[:200]):
            self.assertIs(refusal(Live, *given.values()), error)

    def test_each_argument(self):
        self.check(None)
        for order in BAD_ORDERS:
            self.check(NoOrder, order=order)
        for order in ([1, 0, 2], [1, 2, 0], [2, 0, 1], [2, 1, 0]):
            self.check(NoOrder, order=order)
        for room in BAD_ROOMS:
            self.check(NoRoom, room=room)
        for islands in BAD_ISLANDS:
            self.check(NoIslands, islands=islands)
        self.check(NoIslands, book=((STOP,) * 20,), order=[0], room=[0], islands=[(0, 0)])
        self.check(NoLive, book=((("load", 1), STOP),) * 3)

    def test_the_order_of_the_errors(self):
        lost = ((("load", 1), STOP),) * 3
        for islands in BAD_ISLANDS:
            self.check(NoIslands, book=lost, islands=islands)
            self.check(NoRoom, book=lost, room=[0], islands=islands)
            self.check(NoOrder, book=lost, order=[1, 0, 2], room=[0], islands=islands)
            self.check(NoMachine, book=lost, machine=None, order=[0], room=[0], islands=islands)
            self.check(NoBook, book=(), machine=None, order=[0], room=[0], islands=islands)

    def test_odd_values(self):
        for value in odd_values():
            self.check(NoBook, book=value)
            self.check(NoMachine, machine=value)
            self.check(NoOrder, order=value)
            self.check(NoRoom, room=value)
            self.check(NoIslands, islands=value)


class TestWrongSwitches(unittest.TestCase):
    """What is refused changes nothing."""

    NO_DOORS = (None, True, False, -1, 0, 2, 3, 4, 10 ** 20, "1", "", (), (1,), [], [1], {}, {1: 1})

    def setUp(self):
        # Only part 1 has a door still.
        self.live = live_of(machine=machine_with(leap=40))
        self.live.switch(1, (STOP,))
        self.live.undo()
        self.live.switch(0, (STOP,))
        self.before = whole(self.live)

    def check(self, error, p, part):
        with self.subTest(p=repr(p)[:60], part=repr(part)[:60]):
            self.assertIs(refusal(self.live.switch, p, part), error)
            self.assertEqual(whole(self.live), self.before)

    def test_no_door(self):
        for p in self.NO_DOORS:
            for part in (((STOP,), (("load", 1), STOP)) + BAD_PARTS):
                self.check(NoDoor, p, part)

    def test_no_twin(self):
        for part in BAD_PARTS:
            self.check(NoTwin, 1, part)
        self.check(NoTwin, 1, (("far", 4),))
        self.check(NoTwin, 1, (("load", 1), ("far", 4)))

    def test_no_live_book(self):
        self.check(NoLive, 1, (("load", 1), STOP))
        self.check(NoLive, 1, (("load", 1), STOP, ("word", 2)))
        # With this leap the part does not reach part 0, or itself, or the door does not reach the part.
        self.check(NoLive, 1, (STOP, ("far", 0)))
        self.check(NoLive, 1, (STOP, ("plain", 40, 0), ("far", 3)))
        self.check(NoLive, 1, (STOP, ("stop", 8)))

    def test_what_is_just_within_reach(self):
        # The door of part 1 lies at 16, and part 3 from 48 on.
        self.check(NoLive, 1, (("stop", 9),))
        self.assertIs(refusal(self.live.switch, 1, (("stop", 8),)), None)

    def test_five_parts_already(self):
        live = live_of((OPEN,) * 5)
        before = whole(live)
        for part in ((STOP,), None, (("load", 1), STOP)):
            self.assertIs(refusal(live.switch, 0, part), NoTwin)
        self.assertIs(refusal(live.switch, 5, (STOP,)), NoDoor)
        self.assertEqual(whole(live), before)

    def test_odd_values(self):
        for value in odd_values():
            if not is_integer(value) or value != 1:
                self.check(NoDoor, value, (STOP,))
                self.check(NoDoor, value, value)
            self.check(NoTwin, 1, value)

    def test_the_live_book_is_as_it_was(self):
        other = live_of(machine=machine_with(leap=40))
        other.switch(0, (STOP,))
        for p, part in ((0, (STOP,)), (1, None), (1, (("load", 1), STOP)), (None, None)):
            self.assertIsNotNone(refusal(self.live.switch, p, part))
            self.assertIs(self.live == other, True)
        self.assertIs(refusal(self.live.wrote, 99), NoNumber)
        self.live.undo()
        self.assertIs(refusal(self.live.undo), NoChange)
        self.assertIs(self.live == live_of(machine=machine_with(leap=40)), True)


class TestHandedAndReturned(unittest.TestCase):

    def test_lists_that_were_handed_in_mean_nothing_later(self):
        order, room, islands = [0, 1], [1, 2], [(0, 1)]
        live = Live(BOOK, LEAPING, order, room, islands)
        for one in (order, room, islands):
            one.reverse()
            one.append(one[0])
            one[0] = 7
        self.assertIs(live == live_of(room=[1, 2], islands=[(0, 1)]), True)
        for one in (order, room, islands):
            one.clear()
        other = live_of(room=[1, 2], islands=[(0, 1)])
        for one in (live, other):
            one.switch(0, (STOP,))
        self.assertEqual(whole(live), whole(other))

    def test_what_is_returned_is_new(self):
        live = live_of()
        live.switch(0, (STOP,))
        before = whole(live)
        for read in (live.image, lambda: live.wrote(0), lambda: live.wrote(1), lambda: live.wrote(2)):
            self.assertIsNot(read(), read())
            self.assertEqual(read(), read())
        live.image().clear()
        live.image()[0] = STOP
        live.image()[99] = None
        live.wrote(0).clear()
        live.wrote(0).append(7)
        live.wrote(2).append(7)
        self.assertEqual(whole(live), before)
        live.undo()
        self.assertEqual(live.image(), CELLS)

    def test_what_was_returned_stays_as_it_is(self):
        live = live_of()
        image, writes = live.image(), live.wrote(0)
        live.switch(0, (STOP,))
        later, later_writes = live.image(), live.wrote(0)
        live.undo()
        self.assertEqual((image, writes), (CELLS, []))
        self.assertEqual(later, {**CELLS, 0: ("far", 2, 32), 32: ("stop", 1, 0)})
        self.assertEqual(later_writes, [(32, ("stop", 1, 0)), (0, ("far", 2, 32))])
        self.assertEqual(live.image(), CELLS)

    def test_an_image_behind_a_switch_and_an_undo_that_was_changed(self):
        live = live_of()
        live.image()[0] = ("stop", 1, 0)
        live.switch(0, (STOP,))
        live.image()[16] = ("stop", 1, 0)
        live.undo()
        live.image()[18] = ("stop", 1, 0)
        self.assertEqual(live.image(), CELLS)


if __name__ == "__main__":
    unittest.main()
