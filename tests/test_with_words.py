"""[9]: with_words."""

import unittest

from reachrows.books import is_part
from reachrows.errors import NoPart, NoPlaced
from reachrows.words import with_words
from tests.oracles import some_rows, with_words_told
from tests.support import Numbers, nested, odd_values, refusal

STOP = ("stop", 1)
KINDS = ("plain", "jump", "branch", "load", "word", "stop", "far", "align")


class TestWithWords(unittest.TestCase):

    def check(self, part, placed, rows, table):
        with self.subTest(part=part, placed=placed):
            self.assertEqual(with_words(part, placed), (rows, table))
            self.assertTrue(is_part(rows))

    def test_the_answer_is_a_tuple_of_a_part_and_a_list(self):
        for placed in ([], [(1, 7)]):
            answer = with_words((STOP,), placed)
            self.assertIs(type(answer), tuple)
            self.assertEqual([type(one) for one in answer], [tuple, list])
            self.assertEqual({type(row) for row in answer[0]}, {tuple})

    def test_no_words(self):
        part = (("plain", 1, 1), ("branch", 4), ("align", 2), ("load", 3), ("jump", 1), ("word", 3))
        self.check(part, [], part, [0, 1, 2, 3, 4, 5])
        self.check((STOP,), [], (STOP,), [0])

    def test_a_spot_behind_a_row_that_goes_on(self):
        for row in (("plain", 1, 1), ("load", 7), ("align", 2), ("branch", 1)):
            behind = ("branch", 3) if row[0] == "branch" else row
            self.check((row, STOP), [(1, 7)], (behind, ("jump", 3), ("word", 7), STOP), [0, 3])

    def test_a_spot_behind_a_row_that_does_not_go_on(self):
        for row in (STOP, ("far", 0)):
            self.check((row, STOP), [(1, 7)], (row, ("word", 7), STOP), [0, 2])
        self.check((("jump", 1), STOP), [(1, 7)], (("jump", 2), ("word", 7), STOP), [0, 2])
        self.check((STOP, ("word", 6), STOP), [(2, 7)], (STOP, ("word", 6), ("word", 7), STOP), [0, 1, 3])

    def test_a_spot_ahead_of_a_word(self):
        self.check((STOP, ("word", 6)), [(1, 7)], (STOP, ("word", 7), ("word", 6)), [0, 2])

    def test_the_last_spot(self):
        self.check((STOP,), [(1, 7)], (STOP, ("word", 7)), [0])
        self.check((STOP,), [(1, 7), (1, 9)], (STOP, ("word", 7), ("word", 9)), [0])
        part = (("plain", 1, 0), ("jump", 0))
        self.check(part, [(2, 0)], part + (("word", 0),), [0, 1])

    def test_several_values_at_a_spot(self):
        part = (("plain", 1, 1), STOP)
        placed = [(1, 0), (1, 3), (1, 65535)]
        rows = (("plain", 1, 1), ("jump", 5), ("word", 0), ("word", 3), ("word", 65535), STOP)
        self.check(part, placed, rows, [0, 5])
        self.check((STOP, STOP), placed, (STOP, ("word", 0), ("word", 3), ("word", 65535), STOP), [0, 4])

    def test_several_spots(self):
        part = (("plain", 1, 1), ("jump", 2), ("load", 7), STOP)
        rows = (
            ("plain", 1, 1), ("jump", 3), ("word", 7), ("jump", 6), ("word", 7), ("word", 8), ("load", 7), ("jump", 9),
            ("word", 1), STOP, ("word", 0),
        )
        self.check(part, [(1, 7), (2, 7), (2, 8), (3, 1), (4, 0)], rows, [0, 3, 6, 9])

    def test_goals_are_renumbered(self):
        part = (("branch", 3), ("branch", 0), ("jump", 1), STOP)
        rows = (("branch", 6), ("branch", 0), ("jump", 4), ("word", 5), ("jump", 1), ("word", 5), STOP)
        self.check(part, [(2, 5), (3, 5)], rows, [0, 1, 4, 6])

    def test_a_goal_behind_words_is_the_row_itself(self):
        part = (("jump", 1), ("jump", 1))
        self.check(part, [(1, 5), (2, 5)], (("jump", 2), ("word", 5), ("jump", 2), ("word", 5)), [0, 2])

    def test_other_numbers_are_not_renumbered(self):
        part = (("plain", 1, 1), ("load", 1), ("align", 2), ("far", 1), ("word", 1), STOP)
        rows = (
            ("plain", 1, 1), ("jump", 3), ("word", 9), ("load", 1), ("align", 2), ("far", 1), ("word", 1), STOP,
        )
        self.check(part, [(1, 9)], rows, [0, 3, 4, 5, 6, 7])

    def test_a_part_of_just_twenty_rows(self):
        self.check((STOP,) * 19, [(19, 1)], (STOP,) * 19 + (("word", 1),), list(range(19)))
        self.check((STOP,), [(1, value) for value in range(19)],
                   (STOP,) + tuple(("word", value) for value in range(19)), [0])
        rows = (("plain", 1, 0), ("jump", 3), ("word", 1)) + (("plain", 1, 0),) * 16 + (STOP,)
        self.check((("plain", 1, 0),) * 17 + (STOP,), [(1, 1)], rows, [0] + list(range(3, 20)))

    def test_many_parts_told_again(self):
        numbers = Numbers(90)
        made = refused = 0
        for _ in range(3000):
            part = some_rows(numbers, 1 + numbers.below(14), KINDS)
            if not is_part(part):
                continue
            spots = {(1 + numbers.below(len(part)), numbers.below(4)) for _ in range(numbers.below(7))}
            placed = sorted(spots)
            rows, table = with_words_told(part, placed)
            if is_part(rows):
                made += 1
                self.assertEqual(with_words(part, placed), (rows, table), (part, placed))
            else:
                refused += 1
                self.assertIs(refusal(with_words, part, placed), NoPlaced, (part, placed))
        self.assertGreater(made, 1000)
        self.assertGreater(refused, 30)


class TestWrongArguments(unittest.TestCase):

    PART = (("plain", 1, 1), ("branch", 0), STOP)

    def check(self, placed, error, part=PART):
        with self.subTest(placed=repr(placed)[:60]):
            self.assertIs(refusal(with_words, part, placed), error)

    def test_not_ascending(self):
        for placed in ([(2, 1), (1, 1)], [(1, 2), (1, 1)], [(1, 1), (3, 1), (2, 9)], [(3, 0), (2, 9)]):
            self.check(placed, NoPlaced)
            self.check(sorted(placed), None)

    def test_twice(self):
        for placed in ([(1, 1), (1, 1)], [(3, 0), (3, 0)], [(1, 1), (2, 2), (2, 2)], [(3, 5)] * 2000):
            self.check(placed, NoPlaced)

    def test_spots_out_of_bounds(self):
        for spot in (0, -1, 4, 5, 20, 21, 10 ** 20, -10 ** 20):
            self.check([(spot, 1)], NoPlaced)
        for spot in (1, 2, 3):
            self.check([(spot, 1)], None)

    def test_values_out_of_bounds(self):
        for value in (-1, 65536, 65537, 10 ** 20, -10 ** 20):
            self.check([(3, value)], NoPlaced)
        for value in (0, 1, 65535):
            self.check([(3, value)], None)

    def test_booleans(self):
        for placed in ([(True, 1)], [(1, True)], [(1, False)], [(1, 0), (True, 1)], [(1, 0), (1, True)], [True]):
            self.check(placed, NoPlaced)

    def test_lists_in_the_place_of_tuples(self):
        for placed in ([[1, 1]], [(1, 1), [2, 1]], [[1, 1], (2, 1)]):
            self.check(placed, NoPlaced)

    def test_members_of_other_kinds(self):
        for pair in ((), (1,), (1, 1, 1), (None, 1), (1, None), ("1", 1), (1, "1"), ((1,), 1), (1, (1,)), (1, [1]), 1,
                     None, "11", {}, {1: 1}):
            self.check([pair], NoPlaced)
            self.check([(1, 0), pair], NoPlaced)
            self.check([pair, (3, 0)], NoPlaced)

    def test_what_is_no_list(self):
        for placed in ((), ((1, 1),), {}, {1: 1}, {(1, 1): 1}, None, True, 0, "", nested(list, 10), nested(tuple, 10)):
            self.check(placed, NoPlaced)

    def test_too_many_rows(self):
        self.check([(19, 1), (19, 2)], NoPlaced, (STOP,) * 19)
        self.check([(19, 1)], None, (STOP,) * 19)
        self.check([(1, 1)], NoPlaced, (STOP,) * 20)
        self.check([(1, value) for value in range(20)], NoPlaced, (STOP,))
        self.check([(1, value) for value in range(2000)], NoPlaced, (STOP,))
        # A jump that is put in is a row more.
        self.check([(1, 1)], NoPlaced, (("plain", 1, 0),) * 18 + (STOP,))
        self.check([(1, 1)], None, (("plain", 1, 0),) * 17 + (STOP,))
        self.check([(19, 1)], None, (("plain", 1, 0),) * 18 + (STOP,))

    def test_too_many_jumps_beside_align(self):
        part = (("plain", 1, 0), ("align", 2)) + (("branch", 0),) * 5 + (STOP,)
        self.check([(1, 1)], None, part)
        self.check([(1, 1), (1, 2), (8, 1)], None, part)
        self.check([(1, 1), (2, 1)], NoPlaced, part)
        part = (("plain", 1, 0), ("align", 2)) + (("branch", 0),) * 6 + (STOP,)
        self.check([(1, 1)], NoPlaced, part)
        self.check([(9, 1)], None, part)
        part = (("plain", 1, 0),) + (("branch", 0),) * 6 + (STOP,)
        self.check([(1, 1), (2, 1)], None, part)

    def test_odd_values(self):
        for value in odd_values():
            self.check(value, NoPlaced)
            self.check([value], NoPlaced)
            self.check([], NoPart, value)
            self.check(value, NoPart, value)


if __name__ == "__main__":
    unittest.main()
