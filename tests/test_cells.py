"""[17]: cells."""

import itertools
import unittest

from reachrows.cells import cells
from reachrows.errors import NoBook, NoIslands, NoMachine, NoOrder, NoRoom
from reachrows.islands import extents, with_islands
from tests.cells_told import cells_told
from tests.oracles import lost_told, some_machine
from tests.support import MACHINE, Numbers, machine_with, odd_values, refusal
from tests.test_extents import BAD_ORDERS, BAD_ROOMS, some_book, stops
from tests.test_growing import CASCADE
from tests.test_ways import BAD_ISLANDS, LINE, NEAR, some_islands, some_line

STOP = ("stop", 1)
ALL_WORDS = (("plain", 3, 7), ("branch", 4), ("load", 9), ("jump", 0), ("stop", 5), ("word", 9), ("far", 1))

# A "far" row in part 0 goes to part 4, and each part reaches only those beside it.
GOING = ((("far", 4),),) + LINE[1:]


def some_laid_book(numbers, many):
    """(book, machine, order, room, islands): some book, most often one that has cells with them."""
    book = (some_line if numbers.below(3) == 0 else some_book)(numbers, many)
    machine = some_machine(numbers, span=90)
    leap = 22 + numbers.below(140)
    order = [0] + list(numbers.one_of(list(itertools.permutations(range(1, many)))))
    room = [numbers.below(20) for _ in range(many)]
    islands = some_islands(numbers, many, 10, numbers.below(many))
    return book, machine[:4] + (leap,) + machine[5:], order, room, islands


class TestCells(unittest.TestCase):

    def check(self, book, answer, machine=MACHINE, order=None, room=None, islands=()):
        with self.subTest(book=book, order=order, room=room, islands=islands):
            order, room = order or list(range(len(book))), room or [0] * len(book)
            self.assertEqual(cells(book, machine, order, room, list(islands)), answer)

    def test_the_answer_is_a_dict_of_tuples_or_none(self):
        answer = cells(((("far", 0), ("far", 0)),), machine_with(leap=5), [0], [0], [])
        self.assertIs(type(answer), dict)
        self.assertEqual(answer, {0: ("far", 2, 0), 2: ("far", 2, 0)})
        self.assertEqual([type(address) for address in answer], [int, int])
        self.assertEqual([type(cell) for cell in answer.values()], [tuple, tuple])
        self.assertEqual([type(member) for cell in answer.values() for member in cell], [str, int, int] * 2)
        self.assertIs(cells(((("far", 0), ("far", 0)),), machine_with(leap=3), [0], [0], []), None)

    def test_rows_of_all_words(self):
        answer = {
            0: ("plain", 3, 7), 3: ("branch", 1, 7), 4: ("load", 2, 12), 6: ("jump", 1, 0), 7: ("stop", 5, 0),
            12: ("word", 4, 9), 16: ("far", 2, 32), 32: ("stop", 1, 0),
        }
        self.check((ALL_WORDS, (STOP,)), answer)

    def test_sizes_are_those_of_the_machine_and_of_the_forms(self):
        short = {
            0: ("plain", 3, 7), 3: ("branch", 2, 14), 5: ("load", 7, 19), 12: ("jump", 2, 0), 14: ("stop", 5, 0),
            19: ("word", 11, 9), 30: ("far", 13, 48), 48: ("stop", 1, 0),
        }
        # The jump becomes long, and the branch for that.
        long = {
            0: ("plain", 3, 7), 3: ("branch", 9, 28), 12: ("load", 7, 33), 19: ("jump", 9, 0), 28: ("stop", 5, 0),
            33: ("word", 11, 9), 44: ("far", 13, 64), 64: ("stop", 1, 0),
        }
        self.check((ALL_WORDS, (STOP,)), short, (2, 12, 9, 13, 65, 7, 40, 11))
        self.check((ALL_WORDS, (STOP,)), long, (2, 11, 9, 13, 65, 7, 40, 11))

    def test_aligns_have_no_cells(self):
        part = (("jump", 1), ("align", 8), STOP, ("align", 16), ("plain", 2, 0), ("branch", 3), ("jump", 2))
        answer = {
            0: ("jump", 1, 1), 8: ("stop", 1, 0), 16: ("plain", 2, 0), 18: ("branch", 1, 9), 19: ("jump", 1, 8),
        }
        self.check((part,), answer, machine_with(reach=11))
        self.check((part,), answer, machine_with(reach=11), [0], [7])

    def test_a_goal_that_begins_with_an_align(self):
        book = ((("far", 1), ("far", 0)), (("align", 4), STOP))
        self.check(book, {0: ("far", 2, 16), 2: ("far", 2, 0), 16: ("stop", 1, 0)})
        book = ((("align", 16), ("align", 2), ("far", 0)),)
        self.check(book, {0: ("far", 2, 0)})

    def test_forms_with_align(self):
        part = (("branch", 4), ("branch", 4), ("plain", 9, 1), ("align", 16), STOP)
        answer = {0: ("branch", 3, 16), 3: ("branch", 1, 16), 4: ("plain", 9, 1), 16: ("stop", 1, 0)}
        self.check((part,), answer, machine_with(reach=13))
        moved = {address + 32: (word, size, number + 32 * (word == "branch"))
                 for address, (word, size, number) in answer.items()}
        self.check((part, part), {**answer, **moved}, machine_with(reach=13))

    def test_goals_and_words_lie_in_their_own_parts(self):
        part = (("load", 1), ("branch", 0), ("jump", 0), ("word", 1))
        answer = {}
        for first in (0, 16, 32):
            answer.update({
                first: ("load", 2, first + 4), first + 2: ("branch", 1, first), first + 3: ("jump", 1, first),
                first + 4: ("word", 4, 1),
            })
        self.check((part,) * 3, answer)
        # No word of another part serves a load.
        self.check((part, (("load", 1), STOP)), None, machine_with(span=999))

    def test_the_word_that_serves(self):
        part = (("load", 1), STOP, ("word", 1), ("word", 2), ("word", 1), STOP)
        answer = {
            0: ("load", 2, 3), 2: ("stop", 1, 0), 3: ("word", 4, 1), 7: ("word", 4, 2), 11: ("word", 4, 1),
            15: ("stop", 1, 0),
        }
        self.check((part,), answer)
        part = (STOP, ("word", 1), ("plain", 1, 0), ("load", 1), STOP, ("word", 1))
        self.check(((("jump", 3),) + part[1:],), None, machine_with(span=2))
        answer = {
            0: ("jump", 1, 6), 1: ("word", 4, 1), 5: ("plain", 1, 0), 6: ("load", 2, 9), 8: ("stop", 1, 0),
            9: ("word", 4, 1),
        }
        self.check(((("jump", 3),) + part[1:],), answer)
        # Of two that are as near the first one serves.
        part = (("jump", 2), ("word", 1), ("load", 1), ("stop", 2), ("word", 1))
        answer = {
            0: ("jump", 1, 5), 1: ("word", 4, 1), 5: ("load", 2, 1), 7: ("stop", 2, 0), 9: ("word", 4, 1),
        }
        self.check((part,), answer)

    def test_orders_and_room(self):
        book = ((("far", 2), ("stop", 14)), (("stop", 20),), (("far", 1),))
        machine = machine_with(leap=999)
        self.check(book, {
            0: ("far", 2, 48), 2: ("stop", 14, 0), 16: ("stop", 20, 0), 48: ("far", 2, 16),
        }, machine)
        self.check(book, {
            0: ("far", 2, 16), 2: ("stop", 14, 0), 16: ("far", 2, 32), 32: ("stop", 20, 0),
        }, machine, [0, 2, 1])
        self.check(book, {
            0: ("far", 2, 32), 2: ("stop", 14, 0), 32: ("far", 2, 64), 64: ("stop", 20, 0),
        }, machine, [0, 2, 1], [1, 0, 15])

    def test_islands(self):
        book = ((("far", 2),), (("stop", 50),), (("stop", 4),))
        answer = {0: ("far", 2, 66), 16: ("stop", 50, 0), 66: ("island", 2, 80), 80: ("stop", 4, 0)}
        self.check(book, answer, machine_with(leap=70), islands=[(1, 2)])
        self.check(book, None, machine_with(leap=70))

    def test_ways_by_several_islands(self):
        answer = {
            0: ("far", 2, 21), 16: ("stop", 5, 0), 21: ("island", 2, 37), 32: ("stop", 5, 0), 37: ("island", 2, 53),
            48: ("stop", 5, 0), 53: ("island", 2, 64), 64: ("stop", 5, 0),
        }
        self.check(GOING, answer, NEAR, islands=[(1, 4), (2, 4), (3, 4)])
        self.check(GOING, None, NEAR, islands=[(1, 4), (3, 4)])
        # With a greater leap the first one is left out, and the last one.
        answer = {**answer, 0: ("far", 2, 37), 37: ("island", 2, 64)}
        self.check(GOING, answer, machine_with(leap=39), islands=[(1, 4), (2, 4), (3, 4)])

    def test_several_islands_of_one_part(self):
        book = ((("far", 2), ("far", 3)),) + stops(5, 5, 5)
        answer = {
            0: ("far", 2, 23), 2: ("far", 2, 25), 16: ("stop", 5, 0), 21: ("island", 2, 0), 23: ("island", 2, 32),
            25: ("island", 2, 37), 32: ("stop", 5, 0), 37: ("island", 2, 48), 48: ("stop", 5, 0),
        }
        self.check(book, answer, machine_with(leap=27), islands=[(1, 0), (1, 2), (1, 3), (2, 3)])

    def test_an_island_behind_a_far_row_to_the_same_goal(self):
        book = ((("far", 2),), (("far", 2), ("far", 2)), (STOP,))
        answer = {
            0: ("far", 2, 20), 16: ("far", 2, 32), 18: ("far", 2, 32), 20: ("island", 2, 32), 32: ("stop", 1, 0),
        }
        self.check(book, answer, machine_with(leap=22), islands=[(1, 2)])

    def test_islands_that_no_row_needs(self):
        answer = {0: ("stop", 5, 0), 5: ("island", 2, 16), 16: ("stop", 5, 0), 21: ("island", 2, 16)}
        self.check(stops(5, 5), answer, machine_with(leap=23), islands=[(0, 1), (1, 1)])

    def test_an_island_that_cannot_come_to_its_goal(self):
        answer = {0: ("stop", 5, 0), 5: ("island", 2, None), 16: ("stop", 5, 0), 32: ("stop", 5, 0)}
        self.check(stops(5, 5, 5), answer, NEAR, islands=[(0, 2)])
        # Its own part is too great to be reached from itself.
        self.check(stops(5), {0: ("stop", 5, 0), 5: ("island", 2, None)}, machine_with(leap=6), islands=[(0, 0)])
        self.check(stops(5), {0: ("stop", 5, 0), 5: ("island", 2, 0)}, machine_with(leap=7), islands=[(0, 0)])

    def test_an_island_leads_another_one_on(self):
        answer = {
            0: ("stop", 5, 0), 5: ("island", 2, 21), 16: ("stop", 5, 0), 21: ("island", 2, 32), 32: ("stop", 5, 0),
        }
        self.check(stops(5, 5, 5), answer, machine_with(leap=23), islands=[(0, 2), (1, 2)])

    def test_none_if_something_is_lost(self):
        self.check(((("far", 1), STOP), (STOP,)), None, machine_with(leap=15))
        self.check(((STOP, ("far", 1)), (STOP,)), None, machine_with(leap=15))
        # Also what no run comes to, and a row to its own part.
        self.check(((STOP,), (STOP, ("far", 0))), None, machine_with(leap=15))
        self.check(((STOP,), (STOP, ("far", 1))), None, machine_with(leap=2))
        self.check(((STOP,), (STOP, ("far", 1))), {0: ("stop", 1, 0), 16: ("stop", 1, 0), 17: ("far", 2, 16)},
                   machine_with(leap=3))

    def test_none_if_a_load_is_not_served(self):
        for part in ((("load", 1), STOP), (("load", 1), STOP, ("word", 2)), (STOP, ("load", 1), STOP)):
            self.check((part,), None)
            self.check(((STOP,), part), None)
        part = (("load", 1), ("stop", 20), ("word", 1))
        self.check((part,), None, machine_with(span=21))
        answer = {0: ("load", 2, 22), 2: ("stop", 20, 0), 22: ("word", 4, 1)}
        self.check((part,), answer, machine_with(span=22))

    def test_loads_are_served_as_laid(self):
        part = (("load", 1), ("branch", 3), ("plain", 30, 0), STOP, ("word", 1))
        answer = {
            0: ("load", 2, 36), 2: ("branch", 3, 35), 5: ("plain", 30, 0), 35: ("stop", 1, 0), 36: ("word", 4, 1),
        }
        self.check((part,), answer, machine_with(span=36))
        self.check((part,), None, machine_with(span=35))

    def test_none_if_both_is_so(self):
        self.check(((("load", 1), ("far", 1)), (STOP,)), None, machine_with(leap=0))

    def test_many_told_again(self):
        numbers = Numbers(170)
        none = some = islands_seen = 0
        for _ in range(700):
            given = some_laid_book(numbers, 1 + numbers.below(5))
            answer = cells_told(*given)
            self.assertEqual(cells(*given), answer, given)
            none += answer is None
            some += answer is not None
            islands_seen += answer is not None and any(cell[0] == "island" for cell in answer.values())
        self.assertGreater(min(none, some, islands_seen), 100)

    def test_none_just_if_something_is_lost_or_not_served(self):
        numbers = Numbers(171)
        for _ in range(300):
            book, machine, order, room, islands = some_laid_book(numbers, 1 + numbers.below(5))
            # Without loads nothing but what is lost counts.
            book = tuple(tuple(("plain", 1, 0) if row[0] == "load" else row for row in part) for part in book)
            answer = cells(book, machine, order, room, islands)
            self.assertIs(answer is None, lost_told(book, machine, order, room, islands) != [])

    def test_cells_lie_one_behind_the_other_within_their_parts(self):
        numbers = Numbers(172)
        for _ in range(200):
            book, machine, order, room, islands = some_laid_book(numbers, 1 + numbers.below(5))
            table = cells(book, machine, order, room, islands)
            if table is not None:
                spans = extents(with_islands(book, islands), machine, order, room)
                rows = [row for part in book for row in part if row[0] != "align"]
                self.assertEqual(len(table), len(rows) + len(islands))
                begins = sorted(table)
                for at, behind in zip(begins, begins[1:]):
                    self.assertLessEqual(at + table[at][1], behind)
                for at in begins:
                    self.assertTrue(any(first <= at and at + table[at][1] <= end for first, end in spans))


class TestWrongArguments(unittest.TestCase):

    BOOK = stops(5, 20, 40)

    def check(self, error, **wrong):
        given = {"book": self.BOOK, "machine": NEAR, "order": [0, 2, 1], "room": [0, 0, 0], "islands": []}
        given.update(wrong)
        with self.subTest(wrong=repr(wrong)[:200]):
            self.assertIs(refusal(cells, *given.values()), error)

    def test_each_argument(self):
        self.check(None)
        for order in BAD_ORDERS:
            self.check(NoOrder, order=order)
        for room in BAD_ROOMS:
            self.check(NoRoom, room=room)
        for islands in BAD_ISLANDS:
            self.check(NoIslands, islands=islands)

    def test_orders_that_do_not_begin_with_part_0(self):
        for many in range(1, 6):
            for order in itertools.permutations(range(many)):
                error = None if order[0] == 0 else NoOrder
                self.check(error, book=stops(*[1] * many), order=list(order), room=[0] * many)

    def test_islands_that_would_make_a_part_too_long(self):
        book = ((STOP,) * 19,) * 3
        for islands in ([], [(0, 0)], [(0, 1), (1, 0)]):
            self.check(None, book=book, islands=islands)
        for islands in ([(0, 0), (0, 1)], [(0, 1), (1, 0), (1, 1)]):
            self.check(NoIslands, book=book, islands=islands)
        self.check(NoIslands, book=(CASCADE,), order=[0], room=[0], islands=[(0, 0)])

    def test_more_than_six_islands(self):
        pairs = [(part, goal) for part in range(3) for goal in range(3)]
        self.check(None, islands=pairs)

    def test_the_order_of_the_errors(self):
        for islands in BAD_ISLANDS:
            self.check(NoRoom, room=[0], islands=islands)
            self.check(NoOrder, order=[1, 0, 2], room=[0], islands=islands)
            self.check(NoOrder, order=[0], room=[0], islands=islands)
            self.check(NoMachine, machine=None, order=[1, 0, 2], room=[0], islands=islands)
            self.check(NoBook, book=(), machine=None, order=[0], room=[0], islands=islands)

    def test_the_error_comes_also_where_there_would_be_no_cells(self):
        book = ((("load", 1), ("far", 1)), (STOP,))
        self.check(None, book=book, order=[0, 1], room=[0, 0])
        self.check(NoOrder, book=book, order=[1, 0], room=[0, 0])
        self.check(NoRoom, book=book, order=[0, 1], room=[0, -1])
        self.check(NoIslands, book=book, order=[0, 1], room=[0, 0], islands=[(0, 2)])

    def test_odd_values(self):
        for value in odd_values():
            self.check(NoBook, book=value)
            self.check(NoMachine, machine=value)
            self.check(NoOrder, order=value)
            self.check(NoRoom, room=value)
            self.check(NoIslands, islands=value)
            self.check(NoIslands, islands=[value])


if __name__ == "__main__":
    unittest.main()
