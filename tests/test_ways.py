"""[13]: with_islands, ways and shows_levels."""

import unittest

from reachrows.books import is_book
from reachrows.errors import NoBook, NoGoal, NoIslands, NoMachine, NoOrder, NoRoom
from reachrows.islands import shows_levels, ways, with_islands
from tests.oracles import some_machine, ways_told, with_islands_told
from tests.support import Numbers, is_integer, machine_with, nested, odd_things, odd_values, refusal
from tests.test_extents import BAD_ORDERS, BAD_ROOMS, some_book, some_order, stops
from tests.test_growing import CASCADE

BAD_ISLANDS = (
    None, True, (), ((0, 1),), {}, {0: 1}, "", 0, [[0, 1]], [(0, 1), [1, 2]], [(0, 1), (0, 1)], [(1, 0), (0, 1)],
    [(0, 2), (0, 1)], [(0, 1), (1, 1), (1, 0)], [(5, 0)], [(0, 5)], [(-1, 0)], [(0, -1)], [(True, 2)], [(0, True)],
    [(False, 1)], [(1, False)], [()], [(0,)], [(0, 1, 2)], [0], [None], [(None, 1)], [(0, None)], [("0", 1)],
    [((0,), 1)], [(0, [1])], [(10 ** 20, 0)], [(0, 10 ** 20)], [(0, 1)] * 2000, nested(list, 10),
)

# Five parts, each one with 5 bytes 16 bytes behind the one ahead: with a leap of 40 each reaches the next but one.
LINE = stops(5, 5, 5, 5, 5)
IN_LINE = [0, 1, 2, 3, 4]
NO_ROOM = [0, 0, 0, 0, 0]
NEAR = machine_with(leap=23)
FARTHER = machine_with(leap=39)


def some_islands(numbers, many, most, goal):
    """Some islands, most of them with the goal."""
    pairs = set()
    for part in range(many):
        if numbers.below(6) > 0:
            pairs.add((part, goal))
        if numbers.below(6) == 0:
            pairs.add((part, numbers.below(many)))
    return sorted(pairs)[:most]


def some_line(numbers, many):
    """Some book of small parts, of which some have "far" rows."""
    rows = [[("far", numbers.below(many)) for _ in range(numbers.below(5) // 4)] for _ in range(many)]
    return tuple(tuple(far + [("stop", 1 + numbers.below(9))]) for far in rows)


def some_leaping_machine(numbers):
    """Some machine by which a small part reaches one or two on."""
    machine = some_machine(numbers)
    return machine[:4] + (22 + numbers.below(24),) + machine[5:]


class TestWithIslands(unittest.TestCase):

    def check(self, book, islands, answer):
        with self.subTest(book=book, islands=islands):
            self.assertEqual(with_islands(book, islands), answer)
            self.assertTrue(is_book(answer))

    def test_the_answer_is_a_tuple_of_tuples(self):
        for islands in ([], [(0, 0)]):
            answer = with_islands(stops(1, 2), islands)
            self.assertIs(type(answer), tuple)
            self.assertEqual([type(part) for part in answer], [tuple, tuple])
            self.assertEqual({type(row) for part in answer for row in part}, {tuple})

    def test_no_islands(self):
        self.check(stops(1, 2, 3), [], stops(1, 2, 3))
        self.check((CASCADE,), [], (CASCADE,))

    def test_rows_behind_the_last_rows(self):
        first, second = (("branch", 1), ("stop", 1)), (("jump", 0), ("word", 3))
        self.check((first, second), [(0, 1)], (first + (("far", 1),), second))
        self.check((first, second), [(1, 0)], (first, second + (("far", 0),)))
        self.check((first, second), [(0, 0)], (first + (("far", 0),), second))
        self.check((first, second), [(0, 1), (1, 1)], (first + (("far", 1),), second + (("far", 1),)))

    def test_several_in_one_part_ascending(self):
        book = stops(1, 2, 3)
        rows = (("far", 0), ("far", 1), ("far", 2))
        self.check(book, [(1, 0), (1, 1), (1, 2)], (book[0], book[1] + rows, book[2]))
        self.check(book, [(1, 0), (1, 2)], (book[0], book[1] + (("far", 0), ("far", 2)), book[2]))

    def test_far_rows_of_the_part_stay(self):
        self.check(((("far", 0),),), [(0, 0)], ((("far", 0), ("far", 0)),))

    def test_all_islands_of_five_parts(self):
        pairs = [(part, goal) for part in range(5) for goal in range(5)]
        rows = tuple(("far", goal) for goal in range(5))
        self.check(LINE, pairs, tuple(part + rows for part in LINE))

    def test_a_part_of_just_twenty_rows(self):
        part = (("stop", 1),) * 19
        self.check((part, part), [(0, 1)], (part + (("far", 1),), part))
        self.assertIs(refusal(with_islands, (part, part), [(0, 0), (0, 1)]), NoIslands)
        self.assertIs(refusal(with_islands, (part, part), [(0, 0), (1, 0), (1, 1)]), NoIslands)
        self.assertIs(refusal(with_islands, (CASCADE,), [(0, 0)]), NoIslands)

    def test_many_told_again(self):
        numbers = Numbers(130)
        for _ in range(300):
            many = 1 + numbers.below(5)
            book = some_book(numbers, many)
            islands = some_islands(numbers, many, 10, numbers.below(many))
            self.check(book, islands, with_islands_told(book, islands))

    def test_islands_that_are_none(self):
        for islands in BAD_ISLANDS:
            with self.subTest(islands=repr(islands)[:60]):
                self.assertIs(refusal(with_islands, LINE, islands), NoIslands)
        self.assertIs(refusal(with_islands, stops(1, 2), [(0, 2)]), NoIslands)
        self.assertIs(refusal(with_islands, stops(1, 2), [(2, 0)]), NoIslands)
        self.assertIs(refusal(with_islands, stops(1, 2), [(1, 1)]), None)

    def test_odd_values(self):
        for value in odd_values():
            with self.subTest(value=repr(value)[:60]):
                self.assertIs(refusal(with_islands, value, []), NoBook)
                self.assertIs(refusal(with_islands, LINE, value), NoIslands)
                self.assertIs(refusal(with_islands, LINE, [value]), NoIslands)
                self.assertIs(refusal(with_islands, value, value), NoBook)


class TestWays(unittest.TestCase):

    def check(self, islands, goal, answer, machine=NEAR, book=LINE, order=IN_LINE, room=NO_ROOM):
        with self.subTest(islands=islands, goal=goal, machine=machine, order=order):
            self.assertEqual(ways(book, machine, order, room, islands, goal), answer)

    def test_the_answer_is_a_tuple_of_lists_and_none(self):
        answer = ways(LINE, NEAR, IN_LINE, NO_ROOM, [(1, 0)], 0)
        self.assertIs(type(answer), tuple)
        self.assertEqual(answer, ([], [], [1], None, None))
        self.assertEqual([type(way) for way in answer[:3]], [list] * 3)
        self.assertIs(type(answer[2][0]), int)

    def test_no_island_needed(self):
        for goal in range(5):
            self.check([], goal, ([], [], [], [], []), machine_with(leap=69))
            self.check([(1, 2), (3, 2)], goal, ([], [], [], [], []), machine_with(leap=9999))

    def test_the_gap_at_the_leap_and_beyond_it(self):
        book = stops(5, 5)
        for leap, answer in ((22, ([], [])), (21, ([], [])), (20, ([], None)), (5, ([], None)), (4, (None, None))):
            self.check([], 0, answer, machine_with(leap=leap), book, [0, 1], [0, 0])
        # The gap is the same one the other way, whatever lies first.
        for leap, answer in ((21, ([], [])), (20, (None, []))):
            self.check([], 1, answer, machine_with(leap=leap), book, [0, 1], [0, 0])
            self.check([], 1, answer, machine_with(leap=leap), book, [1, 0], [0, 0])

    def test_room_counts(self):
        book = stops(5, 5)
        self.check([], 0, ([], []), machine_with(leap=23), book, [0, 1], [0, 2])
        self.check([], 0, ([], None), machine_with(leap=23), book, [0, 1], [0, 3])
        self.check([], 0, ([], []), machine_with(leap=23), book, [0, 1], [11, 2])
        self.check([], 0, ([], None), machine_with(leap=23), book, [0, 1], [12, 2])
        self.check([], 0, (None, None), machine_with(leap=23), book, [0, 1], [19, 0])

    def test_a_part_that_is_too_long_for_itself(self):
        book = stops(30, 5)
        self.check([], 0, (None, None), machine_with(leap=29), book, [0, 1], [0, 0])
        self.check([(0, 0), (1, 0)], 0, (None, None), machine_with(leap=29), book, [0, 1], [0, 0])
        self.check([], 0, ([], None), machine_with(leap=30), book, [0, 1], [0, 0])

    def test_one_island(self):
        self.check([(1, 0)], 0, ([], [], [1], None, None))
        self.check([(2, 0)], 0, ([], [], None, None, None))
        self.check([(2, 0)], 0, ([], [], [], [2], [2]), FARTHER)
        self.check([(3, 0)], 0, ([], [], [], None, None), FARTHER)

    def test_several_islands(self):
        self.check([(1, 0), (2, 0)], 0, ([], [], [1], [2, 1], None))
        self.check([(1, 0), (2, 0), (3, 0)], 0, ([], [], [1], [2, 1], [3, 2, 1]))
        self.check([(1, 4), (2, 4), (3, 4)], 4, ([1, 2, 3], [2, 3], [3], [], []))
        self.check([(1, 2), (3, 2)], 2, ([1], [], [], [], [3]))

    def test_islands_with_other_goals_do_not_help(self):
        self.check([(1, 1), (1, 2), (1, 3), (1, 4)], 0, ([], [], None, None, None), machine_with(leap=29))
        self.check([(1, 0), (2, 1)], 0, ([], [], [1], None, None))

    def test_the_first_list_of_those_that_are_as_short(self):
        islands = [(1, 0), (2, 0)]
        self.check(islands, 0, ([], [], [], [1], [2]), FARTHER)
        # Now part 2 lies where part 1 did, and part 1 where part 2 did.
        self.check(islands, 0, ([], [], [], [1], [1]), FARTHER, LINE, [0, 2, 1, 3, 4])
        self.check([(1, 4), (2, 4), (3, 4)], 4, ([2], [2], [], [], []), FARTHER)

    def test_the_first_list_of_several_long_ones(self):
        machine = machine_with(leap=39)
        book = stops(1, 1, 1, 1, 1)
        islands = [(1, 4), (2, 4), (3, 4)]
        told = ways_told(book, machine, [0, 3, 1, 2, 4], NO_ROOM, islands, 4)
        self.check(islands, 4, told, machine, book, [0, 3, 1, 2, 4])
        self.assertEqual(told, ([1], [], [], [1], []))

    def test_fewer_islands_come_ahead_of_lesser_ones(self):
        self.check([(1, 4), (2, 4), (3, 4)], 4, ([3], [2], [], [], []), FARTHER, LINE, [0, 1, 3, 2, 4])
        self.check([(1, 4), (2, 4), (3, 4)], 4, ([1], [], [1], [], []), FARTHER, LINE, [0, 2, 1, 3, 4])

    def test_a_goal_that_is_the_own_part(self):
        for goal in range(5):
            answer = [None] * 5
            answer[goal] = []
            self.check([], goal, tuple(answer), machine_with(leap=5))
            self.check([(goal, goal)], goal, (None,) * 5, machine_with(leap=5))
            self.check([(goal, goal)], goal, tuple(answer), machine_with(leap=7))

    def test_islands_take_their_bytes(self):
        machine = machine_with(leap=21)
        self.check([], 0, ([], [], None, None, None), machine)
        self.check([(0, 1)], 0, ([], [], None, None, None), machine)
        # The island in part 1 makes the end of part 1 lie farther off.
        self.check([(1, 0)], 0, ([], None, None, None, None), machine)
        self.check([(1, 0)], 0, ([], None, None, None, None), machine_with(leap=22))
        self.check([(1, 0)], 0, ([], [], [1], None, None), machine_with(leap=23))
        machine = machine_with(leap=28, far=12)
        self.check([], 0, ([], [], None), machine, stops(5, 5, 5), [0, 1, 2], [0, 0, 0])
        self.check([(0, 0)], 0, ([], None, None), machine, stops(5, 5, 5), [0, 1, 2], [0, 0, 0])

    def test_parts_as_laid_with_islands(self):
        part = (("branch", 2), ("branch", 2), ("align", 16), ("branch", 2), ("stop", 14))
        machine = (1, 8, 6, 3, 66, 3, 9, 1)
        self.check([], 0, ([], []), machine, (part, part), [0, 1], [0, 0])
        self.check([(0, 0)], 0, ([], None), machine, (part, part), [0, 1], [0, 0])
        self.check([(0, 0)], 0, ([], []), machine[:4] + (79,) + machine[5:], (part, part), [0, 1], [0, 0])

    def test_many_told_again(self):
        numbers = Numbers(131)
        lengths = {}
        for _ in range(1500):
            many = numbers.one_of((2, 3, 4, 5, 5, 5))
            book = (some_line if numbers.below(4) else some_book)(numbers, many)
            machine, goal = some_leaping_machine(numbers), numbers.below(many)
            order, room = list(some_order(numbers, many)), [numbers.below(4) for _ in range(many)]
            islands = some_islands(numbers, many, 10, goal)
            answer = ways_told(book, machine, order, room, islands, goal)
            self.check(islands, goal, answer, machine, book, order, room)
            for way in answer:
                key = None if way is None else len(way)
                lengths[key] = lengths.get(key, 0) + 1
        self.assertEqual(set(lengths), {None, 0, 1, 2, 3})
        self.assertGreater(min(lengths.values()), 10, lengths)


class TestShowsLevels(unittest.TestCase):

    ISLANDS = [(1, 0), (2, 0)]
    LEVELS = (0, 0, 1, 2, None)

    def check(self, thing, answer, islands=None, goal=0, machine=NEAR):
        with self.subTest(thing=repr(thing)[:60]):
            given = self.ISLANDS if islands is None else islands
            self.assertIs(shows_levels(LINE, machine, IN_LINE, NO_ROOM, given, goal, thing), answer)

    def test_the_tuple_of_all_levels(self):
        self.check(self.LEVELS, True)
        self.check((0, 0, None, None, None), True, [])
        self.check((0, 0, 0, 0, 0), True, [], 0, machine_with(leap=69))
        self.check((3, 2, 1, 0, 0), True, [(1, 4), (2, 4), (3, 4)], 4)

    def test_other_levels(self):
        for at in range(5):
            for level in (None, 0, 1, 2, 3, 4, -1, 10 ** 20):
                thing = self.LEVELS[:at] + (level,) + self.LEVELS[at + 1:]
                self.check(thing, level == self.LEVELS[at])

    def test_tuples_of_other_lengths(self):
        for thing in ((), (0,), self.LEVELS[:4], self.LEVELS + (None,), self.LEVELS + (0,), self.LEVELS * 2,
                      (0, 0, 1, 2), (0,) * 2000, (None,) * 5):
            self.check(thing, False)

    def test_lists_in_the_place_of_tuples(self):
        for thing in (list(self.LEVELS), [self.LEVELS], (self.LEVELS,), ([0], 0, 1, 2, None), ((0,), 0, 1, 2, None),
                      dict(enumerate(self.LEVELS)), ([], [], [1], [2, 1], None)):
            self.check(thing, False)

    def test_truths_in_the_place_of_numbers(self):
        for thing in ((False, 0, 1, 2, None), (0, False, 1, 2, None), (0, 0, True, 2, None), (0, 0, 1, 2, False),
                      (False, False, True, 2, None), (0, 0, 1, True, None)):
            self.check(thing, False)
        self.check((False,) * 5, False, [], 0, machine_with(leap=69))

    def test_other_kinds_in_the_place_of_numbers(self):
        for level in ("1", "", (1,), [1], {}, {1: 1}, [], ()):
            for at in range(5):
                self.check(self.LEVELS[:at] + (level,) + self.LEVELS[at + 1:], False)

    def test_things_of_any_kind(self):
        for thing in odd_things(9):
            self.check(thing, False)
            self.check((0, 0, thing, 2, None), is_integer(thing) and thing == 1)
            self.check((0, 0, 1, 2, thing), thing is None)
            self.check((thing, 0, 1, 2, None), is_integer(thing) and thing == 0)

    def test_the_answer_is_true_or_false(self):
        for thing in (self.LEVELS, (), None, [1]):
            self.assertIs(type(shows_levels(LINE, NEAR, IN_LINE, NO_ROOM, [], 0, thing)), bool)

    def test_the_lengths_of_the_ways(self):
        numbers = Numbers(132)
        for _ in range(300):
            many = 2 + numbers.below(4)
            book, machine, goal = some_line(numbers, many), some_leaping_machine(numbers), numbers.below(many)
            order, room = list(some_order(numbers, many)), [numbers.below(4) for _ in range(many)]
            islands = some_islands(numbers, many, 10, goal)
            told = ways_told(book, machine, order, room, islands, goal)
            levels = tuple(None if way is None else len(way) for way in told)
            self.assertIs(shows_levels(book, machine, order, room, islands, goal, levels), True)
            at = numbers.below(many)
            for level in (None, 0, 1, 2):
                other = levels[:at] + (level,) + levels[at + 1:]
                answer = shows_levels(book, machine, order, room, islands, goal, other)
                self.assertIs(answer, other == levels, (book, machine, order, room, islands, goal, other))


class TestWrongArguments(unittest.TestCase):
    """For ways and shows_levels alike, whatever the thing."""

    BOOK = LINE[:3]
    BAD_GOALS = (None, True, False, -1, -3, 3, 4, 5, 10 ** 20, -10 ** 20, "0", "", (0,), [0], {}, {0: 0}, (), [])

    def check(self, error, **wrong):
        given = {"book": self.BOOK, "machine": NEAR, "order": [0, 1, 2], "room": [0, 0, 0], "islands": [], "goal": 0}
        given.update(wrong)
        with self.subTest(wrong=repr(wrong)[:200]):
            self.assertIs(refusal(ways, *given.values()), error)
            for thing in ((0, 0, None), None):
                self.assertIs(refusal(shows_levels, *given.values(), thing), error)

    def test_each_argument(self):
        for order in BAD_ORDERS:
            self.check(NoOrder, order=order)
        for room in BAD_ROOMS:
            self.check(NoRoom, room=room)
        for islands in BAD_ISLANDS:
            self.check(NoIslands, islands=islands)
        for goal in self.BAD_GOALS:
            self.check(NoGoal, goal=goal)
        for goal in range(3):
            self.check(None, goal=goal)

    def test_a_goal_of_another_book(self):
        for many in range(1, 6):
            for goal in range(6):
                error = None if goal < many else NoGoal
                self.check(error, book=stops(*[1] * many), order=list(range(many)), room=[0] * many, goal=goal)

    def test_islands_that_would_make_a_part_too_long(self):
        book = ((("stop", 1),) * 19,) * 3
        for islands in ([], [(0, 0)], [(0, 1), (1, 0)]):
            self.check(None, book=book, islands=islands)
        for islands in ([(0, 0), (0, 1)], [(0, 1), (1, 0), (1, 1)]):
            self.check(NoIslands, book=book, islands=islands)
        self.check(NoIslands, book=(CASCADE,), order=[0], room=[0], islands=[(0, 0)])

    def test_the_order_of_the_errors(self):
        for goal in self.BAD_GOALS:
            for islands in BAD_ISLANDS:
                self.check(NoIslands, islands=islands, goal=goal)
                self.check(NoRoom, room=[0], islands=islands, goal=goal)
                self.check(NoOrder, order=[0], room=[0], islands=islands, goal=goal)
                self.check(NoMachine, machine=None, order=[0], room=[0], islands=islands, goal=goal)
                self.check(NoBook, book=(), machine=None, order=[0], room=[0], islands=islands, goal=goal)

    def test_odd_values(self):
        for value in odd_values():
            self.check(NoBook, book=value)
            self.check(NoMachine, machine=value)
            self.check(NoOrder, order=value)
            self.check(NoRoom, room=value)
            self.check(None if is_integer(value) and 0 <= value <= 2 else NoGoal, goal=value)
            self.check(NoIslands, islands=value)

    def test_no_thing_is_refused(self):
        for thing in odd_things():
            self.assertIs(refusal(shows_levels, LINE, NEAR, IN_LINE, NO_ROOM, [], 0, thing), None)
            self.assertIs(refusal(shows_levels, LINE, NEAR, IN_LINE, NO_ROOM, [], 5, thing), NoGoal)


if __name__ == "__main__":
    unittest.main()
