"""[14]: best_order."""

import unittest

from reachrows.errors import NoBook, NoIslands, NoMachine, NoRoom
from reachrows.islands import fewest_islands, lost
from reachrows.orders import best_order
from tests.oracles import best_told
from tests.support import MACHINE, Numbers, machine_with, odd_values, refusal
from tests.test_extents import BAD_ROOMS, some_book, stops
from tests.test_fewest import BOTH
from tests.test_growing import CASCADE
from tests.test_ways import BAD_ISLANDS, NEAR, NO_ROOM, some_leaping_machine, some_line

# Part 0 goes to both others, and each part reaches only those beside it.
FORK = ((("far", 1), ("far", 2)), (("stop", 5),), (("stop", 5),))


class TestBestOrder(unittest.TestCase):

    def check(self, book, pairs, answer, machine=NEAR, room=NO_ROOM):
        with self.subTest(book=book, pairs=pairs, machine=machine, room=room):
            self.assertEqual(best_order(book, machine, room[:len(book)], pairs), answer)

    def test_the_answer_is_a_tuple_of_two_lists_or_none(self):
        answer = best_order(FORK, NEAR, [0, 0, 0], [(1, 2), (2, 1)])
        self.assertIs(type(answer), tuple)
        self.assertEqual(answer, ([0, 1, 2], [(1, 2)]))
        self.assertEqual([type(one) for one in answer], [list, list])
        self.assertEqual([type(number) for number in answer[0]], [int] * 3)
        self.assertEqual([type(pair) for pair in answer[1]], [tuple])
        self.assertEqual([type(number) for number in answer[1][0]], [int, int])
        self.assertIs(best_order(FORK, NEAR, [0, 0, 0], []), None)

    def test_one_part(self):
        book = ((("plain", 20, 0), ("far", 0)),)
        self.check(book, [], ([0], []), machine_with(leap=22))
        self.check(book, [], None, machine_with(leap=21))
        self.check(book, [(0, 0)], ([0], []), machine_with(leap=22))
        self.check(book, [(0, 0)], None, machine_with(leap=21))
        self.check(stops(5), [(0, 0)], ([0], []), machine_with(leap=0))

    def test_two_parts_lie_in_their_order(self):
        book = ((("far", 1),), (("far", 0),))
        self.check(book, [], ([0, 1], []), machine_with(leap=18))
        self.check(book, [(0, 1)], None, machine_with(leap=17))

    def test_nothing_to_go_to(self):
        for many in range(1, 6):
            book = stops(*[1] * many)
            self.check(book, [], (list(range(many)), []), machine_with(leap=0))
            self.check(book, [(0, 0)], (list(range(many)), []), machine_with(leap=0))

    def test_an_order_in_the_place_of_islands(self):
        book = ((("far", 2),),) + stops(5, 5, 5, 5)
        pairs = [(1, 2)]
        self.check(book, pairs, ([0, 2, 1, 3, 4], []))
        book = ((("far", 4),),) + stops(5, 5, 5, 5)
        self.check(book, pairs, ([0, 4, 1, 2, 3], []))
        book = ((("far", 3),), (("far", 4),), (("far", 0),)) + stops(5, 5)
        self.check(book, pairs, None, machine_with(leap=23))
        self.check(book, pairs, ([0, 2, 3, 1, 4], []), machine_with(leap=38))

    def test_the_first_of_several_orders(self):
        book = ((("far", 1),),) + stops(5, 5, 5, 5)
        self.check(book, [], ([0, 1, 2, 3, 4], []))
        self.check(book, [], ([0, 1, 2, 3, 4], []), machine_with(leap=9999))
        book = ((("far", 3),),) + stops(5, 5, 5, 5)
        self.check(book, [], ([0, 1, 2, 3, 4], []), machine_with(leap=53))
        self.check(book, [], ([0, 1, 3, 2, 4], []), machine_with(leap=52))
        self.check(book, [], ([0, 3, 1, 2, 4], []), machine_with(leap=36))

    def test_fewer_islands_come_ahead_of_an_earlier_order(self):
        # In their order the parts need two islands, with part 4 at the second place none.
        book = ((("far", 4),),) + stops(5, 5, 5, 5)
        machine = machine_with(leap=39)
        pairs = [(1, 4), (2, 4), (3, 4)]
        self.assertEqual(fewest_islands(book, machine, [0, 1, 2, 3, 4], NO_ROOM, pairs), [(2, 4)])
        self.check(book, pairs, ([0, 1, 4, 2, 3], []), machine)

    def test_the_first_list_for_the_first_order(self):
        # With these islands any order will do, but each needs one.
        self.check(FORK, [(1, 2), (2, 1)], ([0, 1, 2], [(1, 2)]))
        self.check(FORK, [(2, 1)], ([0, 2, 1], [(2, 1)]))
        self.check(FORK, [(1, 0), (1, 1), (2, 1), (2, 2)], ([0, 2, 1], [(2, 1)]))
        machine = machine_with(leap=39)
        book = ((("far", 1), ("far", 2), ("far", 3), ("far", 4)),) + stops(5, 5, 5, 5)
        self.check(book, [(1, 3), (1, 4), (2, 3), (2, 4)], ([0, 1, 2, 3, 4], [(1, 3), (2, 4)]), machine)

    def test_an_earlier_order_comes_ahead_of_an_earlier_list(self):
        stop = ("stop", 5)
        book = ((stop,), (("far", 1), stop), (("far", 3), ("far", 1), stop), (("far", 1), stop))
        machine, pairs = machine_with(leap=25), [(0, 3), (1, 3), (3, 1)]
        self.assertEqual(fewest_islands(book, machine, [0, 2, 1, 3], [0] * 4, pairs), [(1, 3)])
        self.assertEqual(fewest_islands(book, machine, [0, 1, 3, 2], [0] * 4, pairs), [(3, 1)])
        self.check(book, pairs, ([0, 1, 3, 2], [(3, 1)]), machine)

    def test_none_if_there_are_none(self):
        self.check(BOTH, [], ([0, 4, 1, 2, 3], []))
        self.check(BOTH, [], None, machine_with(leap=17))
        self.check(BOTH, [(1, 0), (1, 4), (2, 0), (2, 4), (3, 0), (3, 4)], None, machine_with(leap=17))

    def test_room_counts(self):
        book = ((("far", 1),), (("stop", 5),), (("stop", 5),))
        self.check(book, [], ([0, 1, 2], []), room=[0, 2, 0])
        self.check(book, [], None, room=[0, 3, 0])
        self.check(book, [], ([0, 1, 2], []), room=[14, 2, 9999])
        self.check(book, [], None, room=[15, 2, 0])

    def test_six_pairs_at_the_most(self):
        pairs = [(part, 0) for part in range(5)] + [(4, 1), (4, 2)]
        for many in range(7):
            self.check(stops(1, 1, 1, 1, 1), pairs[:many], ([0, 1, 2, 3, 4], []))
        self.assertIs(refusal(best_order, stops(1, 1, 1, 1, 1), NEAR, NO_ROOM, pairs), NoIslands)

    def some_case(self, numbers, many):
        """Some book of which part 0, and perhaps others, go to some parts; a machine, room and pairs for it."""
        book = (some_line if numbers.below(2) else some_book)(numbers, many)
        goals = sorted({numbers.below(many) for _ in range(1 + numbers.below(5))})
        if numbers.below(5) > 0:
            part = tuple(("far", goal) for goal in goals) + (("stop", 1 + numbers.below(3)),)
            book = (part,) + stops(*[1] * many)[1:]
        pairs = sorted({(numbers.below(many), numbers.one_of(goals)) for _ in range(12)})
        while len(pairs) > 6:
            pairs.remove(numbers.one_of(pairs))
        return book, some_leaping_machine(numbers), [numbers.below(3) for _ in range(many)], pairs

    def told(self, seed, sizes, many):
        """How many islands there were, and whether parts stood as they are numbered, in cases of these sizes."""
        numbers = Numbers(seed)
        found = []
        for _ in range(many):
            book, machine, room, pairs = self.some_case(numbers, numbers.one_of(sizes))
            answer = best_told(book, machine, room, pairs)
            self.check(book, pairs, answer and tuple(answer), machine, room)
            found.append((None if answer is None else len(answer[1]), answer and answer[0] == sorted(answer[0])))
        return found

    def test_against_all_orders_and_all_lists(self):
        found = self.told(143, (1, 2, 3, 4, 4), 600) + self.told(144, (5,), 70)
        counts = {}
        for many, _ in found:
            counts[many] = counts.get(many, 0) + 1
        self.assertGreater(min(counts[many] for many in (None, 0, 1)), 50, counts)
        self.assertGreater(counts[2] + counts[3], 3, counts)
        # Not only the first order of all is the best one, with islands and without.
        self.assertGreater(found.count((0, False)), 20)
        self.assertGreater(found.count((1, False)), 5)

    def test_nothing_is_lost_with_it(self):
        numbers = Numbers(145)
        for _ in range(60):
            book, machine, room, pairs = self.some_case(numbers, 4)
            answer = best_order(book, machine, room, pairs)
            if answer is not None:
                order, islands = answer
                self.assertEqual(lost(book, machine, order, room, islands), [])
                self.assertEqual(fewest_islands(book, machine, order, room, pairs), islands)


class TestWrongArguments(unittest.TestCase):

    BOOK = BOTH[1:4]

    def check(self, error, **wrong):
        given = {"book": self.BOOK, "machine": MACHINE, "room": [0, 0, 0], "pairs": []}
        given.update(wrong)
        with self.subTest(wrong=repr(wrong)[:200]):
            self.assertIs(refusal(best_order, *given.values()), error)

    def test_each_argument(self):
        self.check(None)
        for room in BAD_ROOMS:
            self.check(NoRoom, room=room)
        for pairs in BAD_ISLANDS:
            self.check(NoIslands, pairs=pairs)

    def test_pairs_that_would_make_a_part_too_long_if_all_were_taken(self):
        book = ((("stop", 1),) * 19,) * 3
        for pairs in ([], [(0, 0)], [(0, 1), (1, 0), (2, 2)]):
            self.check(None, book=book, pairs=pairs)
        for pairs in ([(0, 0), (0, 1)], [(0, 1), (1, 0), (1, 1)]):
            self.check(NoIslands, book=book, pairs=pairs)
        self.check(NoIslands, book=(CASCADE,), room=[0], pairs=[(0, 0)])

    def test_the_order_of_the_errors(self):
        for pairs in BAD_ISLANDS + ([(part, goal) for part in range(3) for goal in range(3)],):
            self.check(NoIslands, pairs=pairs)
            for room in BAD_ROOMS:
                self.check(NoRoom, room=room, pairs=pairs)
                self.check(NoMachine, machine=None, room=room, pairs=pairs)
            self.check(NoBook, book=(), machine=None, room=[0], pairs=pairs)

    def test_odd_values(self):
        for value in odd_values():
            self.check(NoBook, book=value)
            self.check(NoMachine, machine=value)
            self.check(NoRoom, room=value)
            self.check(NoIslands, pairs=value)
            self.check(NoIslands, pairs=[value])


if __name__ == "__main__":
    unittest.main()
