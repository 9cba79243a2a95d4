"""[14]: lost and fewest_islands."""

import unittest

from reachrows.errors import NoBook, NoIslands, NoMachine, NoOrder, NoRoom
from reachrows.islands import fewest_islands, lost
from tests.oracles import fewest_told, lost_told
from tests.support import Numbers, machine_with, odd_values, refusal
from tests.test_extents import BAD_ORDERS, BAD_ROOMS, some_book, some_order, stops
from tests.test_growing import CASCADE
from tests.test_ways import BAD_ISLANDS, IN_LINE, NEAR, NO_ROOM, some_islands, some_leaping_machine, some_line

# Part 0 goes to part 4, and part 4 to part 0; each part reaches only those beside it.
BOTH = ((("far", 4),), (("stop", 2),), (("stop", 2),), (("stop", 2),), (("far", 0),))


class TestLost(unittest.TestCase):

    def check(self, book, islands, answer, machine=NEAR, order=IN_LINE, room=NO_ROOM):
        with self.subTest(book=book, islands=islands, order=order):
            self.assertEqual(lost(book, machine, order, room, islands), answer)

    def test_the_answer_is_a_list_of_tuples_of_integers(self):
        answer = lost(BOTH, NEAR, IN_LINE, NO_ROOM, [])
        self.assertIs(type(answer), list)
        self.assertEqual([type(pair) for pair in answer], [tuple, tuple])
        self.assertEqual({type(number) for pair in answer for number in pair}, {int})

    def test_a_book_without_far_rows(self):
        self.check(stops(1, 2, 3, 4, 5), [], [])
        self.check(stops(1, 2, 3, 4, 5), [(0, 4), (4, 0)], [])
        self.check(stops(99, 99, 99, 99, 99), [], [], machine_with(leap=0))

    def test_the_ascending_list_of_all(self):
        self.check(BOTH, [], [(0, 4), (4, 0)])
        book = (
            (("far", 3), ("far", 2), ("far", 1), ("far", 0)), (("stop", 1),), (("far", 0), ("far", 3)), (("far", 0),),
        )
        self.check(book, [], [(0, 2), (0, 3), (2, 0), (3, 0)], NEAR, [0, 1, 2, 3], NO_ROOM[:4])

    def test_each_of_them_once(self):
        book = ((("branch", 1), ("far", 2), ("far", 2), ("far", 2)), (("stop", 9),), (("far", 0), ("far", 0)))
        self.check(book, [], [(0, 2), (2, 0)], NEAR, [0, 1, 2], [0, 0, 0])

    def test_those_that_islands_help(self):
        self.check(BOTH, [(1, 4), (2, 4), (3, 4)], [(4, 0)])
        self.check(BOTH, [(1, 0), (2, 0), (3, 0)], [(0, 4)])
        self.check(BOTH, [(1, 4), (3, 4)], [(0, 4), (4, 0)])
        self.check(BOTH, [(1, 0), (1, 4), (2, 0), (2, 4), (3, 0), (3, 4)], [])

    def test_rows_of_islands_are_not_asked_for(self):
        # The island in part 0 cannot come to its goal, but no row of the book goes there.
        book = ((("far", 1),),) + stops(1, 1, 1, 1)
        self.check(book, [(0, 4)], [])
        self.check(book, [(0, 3), (0, 4), (1, 4), (4, 0)], [])
        self.check(book, [(0, 1)], [])

    def test_islands_may_push_a_goal_out_of_reach(self):
        book = ((("far", 1),), (("stop", 5),))
        self.check(book, [], [], machine_with(leap=21), [0, 1], [0, 0])
        self.check(book, [(1, 0)], [(0, 1)], machine_with(leap=21), [0, 1], [0, 0])
        self.check(book, [(0, 0)], [], machine_with(leap=21), [0, 1], [0, 0])

    def test_a_far_row_to_its_own_part(self):
        book = ((("plain", 20, 0), ("far", 0)),)
        self.check(book, [], [], machine_with(leap=22), [0], [0])
        self.check(book, [], [(0, 0)], machine_with(leap=21), [0], [0])
        self.check(book, [], [(0, 0)], machine_with(leap=22), [0], [1])
        self.check(book, [(0, 0)], [(0, 0)], machine_with(leap=22), [0], [0])

    def test_the_order_counts(self):
        book = ((("far", 2),), (("stop", 50),), (("stop", 4),))
        self.check(book, [], [(0, 2)], machine_with(leap=70), [0, 1, 2], [0, 0, 0])
        self.check(book, [], [], machine_with(leap=70), [0, 2, 1], [0, 0, 0])
        self.check(book, [], [], machine_with(leap=70), [1, 0, 2], [0, 0, 0])

    def test_many_told_again(self):
        numbers = Numbers(140)
        none = some = 0
        for _ in range(700):
            many = 1 + numbers.below(5)
            book = (some_line if numbers.below(3) else some_book)(numbers, many)
            machine, goal = some_leaping_machine(numbers), numbers.below(many)
            order, room = list(some_order(numbers, many)), [numbers.below(4) for _ in range(many)]
            islands = some_islands(numbers, many, 10, goal)
            answer = lost_told(book, machine, order, room, islands)
            self.check(book, islands, answer, machine, order, room)
            none += answer == []
            some += len(answer) > 1
        self.assertGreater(min(none, some), 50)


class TestFewestIslands(unittest.TestCase):

    def check(self, book, pairs, answer, machine=NEAR, order=IN_LINE, room=NO_ROOM):
        with self.subTest(book=book, pairs=pairs, order=order):
            self.assertEqual(fewest_islands(book, machine, order, room, pairs), answer)

    def test_the_answer_is_a_list_or_none(self):
        self.assertIs(type(fewest_islands(BOTH, machine_with(leap=999), IN_LINE, NO_ROOM, [])), list)
        self.assertIs(fewest_islands(BOTH, NEAR, IN_LINE, NO_ROOM, []), None)

    def test_none_needed(self):
        self.check(BOTH, [], [], machine_with(leap=999))
        self.check(BOTH, [(1, 0), (1, 4)], [], machine_with(leap=999))
        self.check(stops(1, 1, 1, 1, 1), [(1, 0)], [])

    def test_none_if_there_are_none(self):
        self.check(BOTH, [], None)
        self.check(BOTH, [(1, 4), (2, 4), (3, 4)], None)
        self.check(BOTH, [(1, 0), (1, 1), (1, 4), (2, 0), (2, 4), (3, 0)], None)

    def test_all_six_needed(self):
        pairs = [(1, 0), (1, 4), (2, 0), (2, 4), (3, 0), (3, 4)]
        self.check(BOTH, pairs, pairs)

    def test_the_fewest_of_several(self):
        # With this leap a part reaches the next but one, too: part 2 alone will do.
        machine = machine_with(leap=38)
        self.check(BOTH, [(1, 0), (1, 4), (2, 0), (2, 4), (3, 0), (3, 4)], [(2, 0), (2, 4)], machine)
        self.check(BOTH, [(1, 0), (1, 4), (2, 4), (3, 0), (3, 4)], [(1, 0), (2, 4), (3, 0)], machine)
        self.check(BOTH[:4] + stops(1), [(1, 4), (2, 4), (3, 4)], [(2, 4)], machine)

    def test_the_first_ascending_of_those_that_are_as_few(self):
        book = BOTH[:4] + stops(1)
        machine = machine_with(leap=54)
        self.check(book, [(1, 4), (2, 4), (3, 4)], [(1, 4)], machine)
        self.check(book, [(2, 4), (3, 4)], [(2, 4)], machine)
        self.check(book, [(3, 4)], [(3, 4)], machine)
        self.check(book, [(0, 4), (1, 3), (2, 4), (3, 4)], [(2, 4)], machine)

    def test_islands_that_push_others_away_are_left_out(self):
        book = ((("far", 1),), (("stop", 5),))
        self.check(book, [(0, 0), (1, 0)], [], machine_with(leap=21), [0, 1], [0, 0])

    def test_six_pairs_at_the_most(self):
        pairs = [(part, 0) for part in range(5)] + [(4, 1), (4, 2)]
        book = stops(1, 1, 1, 1, 1)
        for many in range(7):
            self.check(book, pairs[:many], [])
        self.assertIs(refusal(fewest_islands, book, NEAR, IN_LINE, NO_ROOM, pairs), NoIslands)

    def test_against_all_lists(self):
        numbers = Numbers(141)
        lengths = {}
        for _ in range(900):
            many = numbers.one_of((2, 3, 4, 5, 5, 5))
            goal = numbers.below(many)
            book, machine = some_line(numbers, many), some_leaping_machine(numbers)
            if numbers.below(3) > 0:
                # A row far from its goal, and no other one.
                book = tuple(((("stop", 1 + numbers.below(9)),)) for _ in range(many))
                book = ((("far", goal),) + book[0],) + book[1:]
            order, room = list(some_order(numbers, many)), [numbers.below(4) for _ in range(many)]
            pairs = some_islands(numbers, many, 6, goal)
            answer = fewest_told(book, machine, order, room, pairs)
            self.check(book, pairs, answer, machine, order, room)
            key = None if answer is None else len(answer)
            lengths[key] = lengths.get(key, 0) + 1
        self.assertGreaterEqual(set(lengths), {None, 0, 1, 2})
        self.assertGreater(min(lengths[key] for key in (None, 0, 1, 2)), 5, lengths)

    def test_nothing_is_lost_with_them(self):
        numbers = Numbers(142)
        for _ in range(200):
            book, machine = some_book(numbers, 4), some_leaping_machine(numbers)
            pairs = some_islands(numbers, 4, 6, numbers.below(4))
            answer = fewest_islands(book, machine, [3, 1, 0, 2], [0, 1, 2, 3], pairs)
            if answer is not None:
                self.assertEqual(lost(book, machine, [3, 1, 0, 2], [0, 1, 2, 3], answer), [])


class TestWrongArguments(unittest.TestCase):
    """For both functions alike."""

    BOOK = BOTH[1:4]

    def check(self, error, **wrong):
        given = {"book": self.BOOK, "machine": NEAR, "order": [0, 1, 2], "room": [0, 0, 0], "islands": []}
        given.update(wrong)
        with self.subTest(wrong=repr(wrong)[:200]):
            for call in (lost, fewest_islands):
                self.assertIs(refusal(call, *given.values()), error)

    def test_each_argument(self):
        self.check(None)
        for order in BAD_ORDERS:
            self.check(NoOrder, order=order)
        for room in BAD_ROOMS:
            self.check(NoRoom, room=room)
        for islands in BAD_ISLANDS:
            self.check(NoIslands, islands=islands)

    def test_islands_that_would_make_a_part_too_long_if_all_were_taken(self):
        book = ((("stop", 1),) * 19,) * 3
        for islands in ([], [(0, 0)], [(0, 1), (1, 0), (2, 2)]):
            self.check(None, book=book, islands=islands)
        for islands in ([(0, 0), (0, 1)], [(0, 1), (1, 0), (1, 1)]):
            self.check(NoIslands, book=book, islands=islands)
        self.check(NoIslands, book=(CASCADE,), order=[0], room=[0], islands=[(0, 0)])

    def test_only_lost_takes_more_than_six(self):
        pairs = [(part, goal) for part in range(3) for goal in range(3)]
        for many in range(10):
            given = (self.BOOK, NEAR, [0, 1, 2], [0, 0, 0], pairs[:many])
            self.assertIs(refusal(lost, *given), None)
            self.assertIs(refusal(fewest_islands, *given), None if many <= 6 else NoIslands)

    def test_the_order_of_the_errors(self):
        for islands in BAD_ISLANDS + ([(part, goal) for part in range(3) for goal in range(3)] + [(3, 0)],):
            self.check(NoIslands, islands=islands)
            self.check(NoRoom, room=[0], islands=islands)
            self.check(NoOrder, order=[0], room=[0], islands=islands)
            self.check(NoMachine, machine=None, order=[0], room=[0], islands=islands)
            self.check(NoBook, book=(), machine=None, order=[0], room=[0], islands=islands)

    def test_odd_values(self):
        for value in odd_values():
            self.check(NoBook, book=value)
            self.check(NoMachine, machine=value)
            self.check(NoOrder, order=value)
            self.check(NoRoom, room=value)
            self.check(NoIslands, islands=value)
            self.check(NoIslands, islands=[value])


if __name__ == "__main__":
    unittest.main()
