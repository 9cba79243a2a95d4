"""[10]: cheapest_words."""

import unittest

from reachrows.errors import NoEven, NoMachine, NoPart, NoPlaced
from reachrows.words import cheapest_words
from tests.oracles import all_lists, grown_told, size_told, some_machine, some_rows, unserved_told, with_words_told
from tests.support import MACHINE, Numbers, machine_with, nested, odd_values, refusal

STOP = ("stop", 1)
KINDS = ("plain", "plain", "branch", "branch", "jump", "load", "load", "word", "stop")


def cheapest_told(part, machine, pairs):
    """The answer, of all lists of some of the pairs, and the number of the lists of one size that would do."""
    found = []
    for placed in all_lists(pairs):
        rows, _ = with_words_told(part, placed)
        forms, _ = grown_told(rows, machine)
        if not unserved_told(rows, machine, forms):
            found.append((size_told(rows, machine, forms), len(placed), placed))
    if not found:
        return None, 0
    size, _, placed = min(found)
    return (size, placed), [one[0] for one in found].count(size)


class TestCheapestWords(unittest.TestCase):

    def check(self, part, machine, pairs, answer):
        with self.subTest(part=part, machine=machine, pairs=pairs):
            self.assertEqual(cheapest_words(part, machine, pairs), answer)

    def test_the_answer_is_a_tuple_of_an_integer_and_a_list(self):
        for pairs in ([], [(1, 7)]):
            answer = cheapest_words((("load", 7), STOP, ("word", 7)), MACHINE, pairs)
            self.assertIs(type(answer), tuple)
            self.assertEqual([type(one) for one in answer], [int, list])

    def test_no_loads(self):
        self.check((STOP,), MACHINE, [], (1, []))
        self.check((STOP,), MACHINE, [(1, 7)], (1, []))
        self.check((("plain", 9, 0), STOP), MACHINE, [(1, 7), (1, 8), (2, 7)], (10, []))

    def test_loads_that_are_served_without_words(self):
        part = (("load", 7), STOP, ("word", 7))
        self.check(part, MACHINE, [], (7, []))
        self.check(part, MACHINE, [(1, 7), (2, 7), (3, 7)], (7, []))

    def test_none_if_there_is_none(self):
        part = (("load", 7), STOP)
        self.check(part, MACHINE, [], None)
        self.check(part, MACHINE, [(1, 6), (2, 8)], None)
        self.check(part, machine_with(span=2), [(2, 7)], None)
        self.check(part, machine_with(span=3), [(2, 7)], (7, [(2, 7)]))
        self.check((("load", 7), ("load", 8), STOP), MACHINE, [(1, 7), (3, 7)], None)

    def test_a_word_that_is_near_enough(self):
        part = (("load", 7), ("plain", 30, 0), STOP)
        self.check(part, MACHINE, [(1, 7), (3, 7)], (38, [(1, 7)]))
        self.check(part, machine_with(span=33), [(1, 7), (3, 7)], (37, [(3, 7)]))
        self.check(part, machine_with(span=32), [(1, 7), (3, 7)], (38, [(1, 7)]))

    def test_a_word_is_needed_for_each_value(self):
        part = (("load", 7), ("load", 8), STOP)
        self.check(part, MACHINE, [(3, 7), (3, 8)], (13, [(3, 7), (3, 8)]))
        self.check(part, MACHINE, [(3, 7), (3, 8), (3, 9)], (13, [(3, 7), (3, 8)]))
        self.check(part, MACHINE, [(2, 7), (2, 8), (3, 7), (3, 8)], (13, [(3, 7), (3, 8)]))

    def test_of_one_size_the_list_of_fewer_members(self):
        # One word between the plain rows needs a jump over it, and serves both loads, if the span is wide enough.
        part = (("load", 7), STOP, ("plain", 20, 0), ("plain", 20, 0), ("load", 7), STOP)
        pairs = [(2, 7), (3, 7), (6, 7)]
        self.check(part, machine_with(word=1, span=24), pairs, (48, [(3, 7)]))
        self.check(part, machine_with(word=1, span=23), pairs, (48, [(2, 7), (6, 7)]))
        self.check(part, machine_with(word=2, span=24), pairs, (49, [(3, 7)]))
        self.check(part, machine_with(word=1, short=2, span=25), pairs, (48, [(2, 7), (6, 7)]))

    def test_of_one_size_and_as_many_members_the_first_ascending(self):
        part = (("load", 7), STOP, STOP)
        self.check(part, MACHINE, [(2, 7), (3, 7)], (8, [(2, 7)]))
        self.check(part, MACHINE, [(2, 6), (2, 7), (3, 7)], (8, [(2, 7)]))
        self.check(part, machine_with(span=2), [(1, 7), (2, 7), (3, 7)], None)

    def test_the_size_is_that_of_the_part_as_laid(self):
        # The word between makes the branch long.
        part = (("branch", 3), ("load", 7), STOP, STOP)
        self.check(part, machine_with(reach=4), [(3, 7)], (1 + 2 + 1 + 1 + 4 + 2, [(3, 7)]))
        self.check(part, machine_with(reach=8), [(3, 7)], (1 + 2 + 1 + 1 + 4, [(3, 7)]))
        self.check(part, machine_with(reach=4), [(3, 7), (4, 7)], (9, [(4, 7)]))

    def test_all_loads_are_served_as_laid(self):
        # With the branch short the load is near enough to the word, with the branch long it is not.
        part = (("load", 7), ("branch", 3), STOP, ("plain", 20, 0), ("jump", 1))
        self.check(part, machine_with(reach=26, span=4), [(3, 7)], (29, [(3, 7)]))
        self.check(part, machine_with(reach=6, span=4), [(3, 7)], (31, [(3, 7)]))
        self.check(part, machine_with(reach=5, span=4), [(3, 7)], None)
        self.check(part, machine_with(reach=5, span=6), [(3, 7)], (33, [(3, 7)]))

    def test_five_pairs_at_the_most(self):
        part = (("load", 7), STOP)
        self.check(part, MACHINE, [(2, 3), (2, 4), (2, 5), (2, 6), (2, 7)], (7, [(2, 7)]))
        pairs = [(2, 3), (2, 4), (2, 5), (2, 6), (2, 7), (2, 8)]
        self.assertIs(refusal(cheapest_words, part, MACHINE, pairs), NoPlaced)

    def test_all_five_may_be_needed(self):
        part = tuple(("load", value) for value in range(5)) + (STOP,)
        pairs = [(6, value) for value in range(5)]
        self.check(part, machine_with(span=99), pairs, (31, pairs))
        self.check(part, machine_with(span=99), pairs[:4], None)

    def test_against_all_lists(self):
        numbers = Numbers(100)
        kinds = {"None": 0, "none": 0, "one": 0, "more": 0, "tie": 0}
        for _ in range(700):
            part = some_rows(numbers, 1 + numbers.below(8), KINDS)
            machine = some_machine(numbers, reach=25, span=25)
            spots = {(1 + numbers.below(len(part)), 1 + numbers.below(2)) for _ in range(numbers.below(7))}
            pairs = sorted(spots)[:5]
            if len(with_words_told(part, pairs)[0]) > 20:
                continue
            answer, many = cheapest_told(part, machine, pairs)
            self.assertEqual(cheapest_words(part, machine, pairs), answer, (part, machine, pairs))
            kind = "None" if answer is None else ("none", "one", "more")[min(len(answer[1]), 2)]
            kinds[kind] += 1
            kinds["tie"] += many > 1
        self.assertGreater(min(kinds.values()), 10, kinds)


class TestWrongArguments(unittest.TestCase):

    PART = (("load", 7), ("plain", 30, 0), STOP)
    UNEVEN = (("load", 7), ("align", 4), STOP)
    BAD_PAIRS = (
        None, True, (), ((1, 7),), [[1, 7]], [(1, 7), (1, 7)], [(3, 7), (1, 7)], [(0, 7)], [(4, 7)], [(1, -1)],
        [(1, 65536)], [(True, 7)], [(1, True)], [(1,)], [1], {}, {1: 7}, [(3, value) for value in range(6)],
        [(3, value) for value in range(2000)], nested(list, 10),
    )

    def check(self, part, machine, pairs, error):
        with self.subTest(part=repr(part)[:60], machine=repr(machine)[:60], pairs=repr(pairs)[:60]):
            self.assertIs(refusal(cheapest_words, part, machine, pairs), error)

    def test_pairs_that_are_not_placed(self):
        for pairs in self.BAD_PAIRS:
            self.check(self.PART, MACHINE, pairs, NoPlaced)

    def test_six_pairs(self):
        for many in range(9):
            self.check(self.PART, MACHINE, [(3, value) for value in range(many)], None if many <= 5 else NoPlaced)

    def test_pairs_that_would_make_too_many_rows_if_all_were_taken(self):
        part = (("load", 7),) + (STOP,) * 15
        self.check(part, MACHINE, [(16, value) for value in (6, 7, 8, 9)], None)
        self.check(part, MACHINE, [(16, value) for value in (5, 6, 7, 8, 9)], NoPlaced)
        self.check(part, MACHINE, [(1, 5), (1, 6), (1, 7)], None)
        self.check(part, MACHINE, [(1, 5), (1, 6), (1, 7), (1, 8)], NoPlaced)

    def test_no_even_stands_behind_no_part_and_ahead_of_no_machine(self):
        for machine in (MACHINE, None, (), list(MACHINE)):
            for pairs in ([], [(3, 7)]) + self.BAD_PAIRS:
                self.check(self.UNEVEN, machine, pairs, NoEven)
                self.check(list(self.UNEVEN), machine, pairs, NoPart)
                self.check((("align", 4),), machine, pairs, NoPart)
        for pairs in self.BAD_PAIRS:
            self.check(self.PART, None, pairs, NoMachine)

    def test_odd_values(self):
        for value in odd_values():
            self.check(value, MACHINE, [], NoPart)
            self.check(self.PART, value, [], NoMachine)
            self.check(self.PART, MACHINE, value, NoPlaced)
            self.check(self.PART, value, value, NoMachine)
            self.check(value, value, value, NoPart)


if __name__ == "__main__":
    unittest.main()
