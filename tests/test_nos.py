"""[11]: no_words and shows_no."""

import itertools
import unittest

from reachrows.aligned import laid
from reachrows.errors import NoEven, NoMachine, NoPart, NoPlaced, NoSize
from reachrows.growing import grown
from reachrows.places import served
from reachrows.words import no_words, shows_no, with_words
from tests.oracles import grown_told, is_chain_told, jumps_of, size_told, some_machine, some_rows, unserved_told
from tests.oracles import with_words_told
from tests.support import MACHINE, Numbers, is_integer, machine_with, nested, odd_things, odd_values, refusal
from tests.test_cheapest import KINDS

STOP = ("stop", 1)

# With the word at the spot 4 the rows are 0 load, 1 branch, 2 branch, 3 stop, 4 word, 5 plain, 6 load, 7 stop.
PART = (("load", 7), ("branch", 4), ("branch", 4), STOP, ("plain", 20, 0), ("load", 7), STOP)
RIVAL = [(4, 7)]
# With the word both branches become long, each by itself; without it both fit.
NARROW = machine_with(reach=4, span=10)


def no_told(part, machine, rival, size):
    """The no, of the part with the rival's words."""
    rows, _ = with_words_told(part, rival)
    forms, chain = grown_told(rows, machine)
    loads = unserved_told(rows, machine, forms)
    if loads:
        return ("lost", chain, loads[0])
    return ("great", chain) if size_told(rows, machine, forms) >= size else None


class TestNoWords(unittest.TestCase):

    def check(self, rival, size, answer, part=PART, machine=NARROW):
        with self.subTest(rival=rival, size=size, machine=machine):
            self.assertEqual(no_words(part, machine, rival, size), answer)

    def test_the_example(self):
        part, machine = (("load", 7), ("plain", 30, 0), STOP), (1, 9, 3, 2, 60, 2, 20, 4)
        self.check([(3, 7)], 38, ("lost", [], 0), part, machine)
        self.check([(1, 7)], 38, ("great", []), part, machine)
        self.check([(1, 7)], 39, None, part, machine)

    def test_kinds_of_the_answer(self):
        for size, members in ((0, [str, list]), (10 ** 6, None)):
            answer = no_words((STOP,), MACHINE, [], size)
            self.assertEqual(answer and [type(one) for one in answer], members)
            self.assertIs(type(answer), tuple if members else type(None))
        self.assertEqual([type(one) for one in no_words(PART, NARROW, [], 0)], [str, list, int])

    def test_a_load_that_is_lost_as_laid_alone(self):
        # The chain makes the load of row 0 lie 2 + 3 + 3 + 1 bytes ahead of the word.
        self.check(RIVAL, 0, ("lost", [1, 2], 6))
        self.check(RIVAL, 0, ("great", [1, 2]), PART, machine_with(reach=4, span=24))
        self.check(RIVAL, 0, ("lost", [1, 2], 6), PART, machine_with(reach=4, span=23))
        self.check(RIVAL, 0, ("lost", [1, 2], 0), PART, machine_with(reach=4, span=8))
        self.check(RIVAL, 0, ("lost", [], 6), PART, machine_with(reach=9, span=8))

    def test_the_least_lost_load(self):
        self.check([], 0, ("lost", [], 0))
        self.check([(7, 7)], 0, ("lost", [], 0))
        part = (("load", 7), ("load", 8), ("load", 9), STOP)
        self.check([], 0, ("lost", [], 0), part)
        self.check([(4, 7)], 0, ("lost", [], 1), part)
        self.check([(4, 7), (4, 8)], 0, ("lost", [], 2), part)
        self.check([(4, 8)], 0, ("lost", [], 0), part)
        self.check([(4, 7), (4, 9)], 0, ("lost", [], 1), part)

    def test_the_number_of_the_load_is_that_with_the_words(self):
        part = (STOP, ("load", 7), STOP)
        self.check([(1, 8)], 0, ("lost", [], 2), part)
        self.check([(1, 8), (1, 9)], 0, ("lost", [], 3), part)
        self.check([], 0, ("lost", [], 1), part)

    def test_lost_comes_ahead_of_great(self):
        for size in (0, 1, 37, 10 ** 6):
            self.check([], size, ("lost", [], 0))

    def test_sizes_just_as_great_and_greater(self):
        machine = machine_with(reach=4, span=30)
        rows, _ = with_words_told(PART, RIVAL)
        size = size_told(rows, machine, [])
        self.assertEqual(size, 2 + 3 + 3 + 1 + 4 + 20 + 2 + 1)
        for told in (0, 1, size - 1, size):
            self.check(RIVAL, told, ("great", [1, 2]), PART, machine)
        for told in (size + 1, size + 2, 10 ** 6):
            self.check(RIVAL, told, None, PART, machine)

    def test_the_chain_is_that_of_grown_with_the_words(self):
        rows, _ = with_words(PART, RIVAL)
        self.assertEqual(grown(rows, NARROW)[1], [1, 2])
        self.assertEqual(grown(PART, NARROW)[1], [])
        self.check(RIVAL, 0, ("great", [1, 2]), PART, machine_with(reach=5, span=30))
        self.check(RIVAL, 0, ("great", [1]), PART, machine_with(reach=6, span=30))
        self.check(RIVAL, 0, ("great", []), PART, machine_with(reach=7, span=30))

    def test_rivals_of_more_than_five_words(self):
        rival = [(2, value) for value in range(18)]
        self.check(rival, 75, ("great", []), (("load", 7), STOP), machine_with(span=40))
        self.check(rival, 76, None, (("load", 7), STOP), machine_with(span=40))

    def test_parts_without_loads(self):
        self.check([], 1, ("great", []), (STOP,))
        self.check([], 2, None, (STOP,))
        self.check([(1, 7)], 5, ("great", []), (STOP,))

    def test_many_told_again(self):
        numbers = Numbers(110)
        kinds = {"lost": 0, "great": 0, None: 0, "chain": 0}
        for _ in range(1200):
            part, machine, rival = some_case(numbers)
            if len(with_words_told(part, rival)[0]) > 20:
                continue
            for size in (0, 10 + numbers.below(50), 10 ** 6):
                answer = no_told(part, machine, rival, size)
                self.assertEqual(no_words(part, machine, rival, size), answer, (part, machine, rival, size))
                kinds[answer and answer[0]] += 1
                kinds["chain"] += answer is not None and len(answer[1]) > 1
        self.assertGreater(min(kinds.values()), 100, kinds)


def some_case(numbers):
    """A part, a machine and a rival, most often with words for the part's loads."""
    part = some_rows(numbers, 2 + numbers.below(7), KINDS)
    spots = {(1 + numbers.below(len(part)), 1 + numbers.below(2)) for _ in range(numbers.below(5))}
    return part, some_machine(numbers, reach=20, span=35), sorted(spots)


class TestShowsNo(unittest.TestCase):

    WIDE = machine_with(reach=4, span=24)

    def check(self, thing, answer, size=36, rival=RIVAL, part=PART, machine=NARROW):
        with self.subTest(thing=repr(thing)[:60], size=size, machine=machine):
            self.assertIs(shows_no(part, machine, rival, size, thing), answer)

    def test_the_no_of_no_words(self):
        self.check(("lost", [1, 2], 6), True)
        self.check(("great", [1, 2]), True)
        self.check(("great", [1, 2]), True, machine=self.WIDE)

    def test_a_load_that_some_word_serves(self):
        self.check(("lost", [1, 2], 0), False)
        self.check(("lost", [1, 2], 6), False, machine=self.WIDE)
        self.check(("lost", [1, 2], 0), True, machine=machine_with(reach=4, span=8))
        self.check(("lost", [1], 0), False, machine=machine_with(reach=4, span=8))
        self.check(("lost", [], 6), True, machine=machine_with(reach=9, span=8))

    def test_all_lost_loads(self):
        self.check(("lost", [], 0), True, rival=[])
        self.check(("lost", [], 5), True, rival=[])
        self.check(("lost", [1], 5), False, rival=[])

    def test_rows_that_are_no_loads(self):
        for row in (1, 2, 3, 4, 5, 7, 8, -1, -2, 20, 10 ** 20, -10 ** 20):
            self.check(("lost", [1, 2], row), False)
            self.check(("lost", [], row), False)

    def test_old_numbers_of_loads(self):
        self.check(("lost", [1, 2], 5), False)
        self.check(("lost", [1], 6), False, rival=[])

    def test_chains_of_all_kinds(self):
        for chain, answer in (([], True), ([1], True), ([2], True), ([2, 1], True), ([1, 2], True), ([1, 1], False),
                              ([1, 2, 3], False), ([6], False), ([0], False)):
            self.check(("lost", chain, 6), answer)

    def test_sizes_with_just_the_chain_long(self):
        for chain, size in (([], 32), ([1], 34), ([2], 34), ([1, 2], 36), ([2, 1], 36)):
            for told in (0, size - 1, size):
                self.check(("great", chain), True, told)
            for told in (size + 1, size + 2, 10 ** 6):
                self.check(("great", chain), False, told)

    def test_chains_that_are_none(self):
        for chain in ([1], [2], [1, 2], [2, 1]):
            self.check(("great", chain), True, 0, machine=machine_with(reach=5, span=24))
            self.check(("great", chain), chain == [1], 0, machine=machine_with(reach=6, span=24))
            self.check(("great", chain), False, 0, machine=machine_with(reach=7, span=24))
        for chain in ([0], [3], [4], [8], [-1], [1, 1], [1, 2, 1], (1, 2), (), (1,), None, "", {}, {1: 2}, 1, [True],
                      [True, 2], [None], [[1]], nested(list, 9)):
            self.check(("great", chain), False, 0)
            self.check(("lost", chain, 6), False, 0)

    def test_lost_does_not_ask_for_the_size(self):
        for size in (0, 36, 37, 10 ** 6):
            self.check(("lost", [1, 2], 6), True, size)

    def test_lists_in_the_place_of_tuples(self):
        for thing in (["lost", [1, 2], 6], ["great", [1, 2]], ["great", (1, 2)], ("great", (1, 2)),
                      ("lost", (1, 2), 6), [("great", [1, 2])], (("great", [1, 2]),), [["lost"], [1, 2], [6]]):
            self.check(thing, False)

    def test_truths_in_the_place_of_numbers(self):
        part, rival = (("load", 8), ("load", 7), ("branch", 0), ("jump", 1)), [(4, 6)]
        machine = machine_with(reach=2, span=10)
        self.assertEqual(no_words(part, machine, rival, 0), ("lost", [2, 3], 0))
        for load, row in itertools.product((0, 1), (2, 3)):
            self.check(("lost", [row], load), True, 0, rival, part, machine)
        for load in (True, False):
            self.check(("lost", [], load), False, 0, rival, part, machine)
            self.check(("lost", [2, 3], load), False, 0, rival, part, machine)
        part = (("jump", 2), ("jump", 3), ("plain", 30, 0), STOP)
        machine = machine_with(reach=3)
        for chain in ([1], [1, 0]):
            self.check(("great", chain), True, 0, [], part, machine)
        for chain in ([0], [0, 1], [True], [True, 0], [1, False], [True, False], [False]):
            self.check(("great", chain), False, 0, [], part, machine)

    def test_tuples_of_other_lengths_and_words(self):
        for thing in (
            (), ("lost",), ("great",), ("lost", [1, 2]), ("great", [1, 2], 6), ("lost", [1, 2], 6, 6),
            ("great", [1, 2], 36), ("great", [1, 2], None), ("lost", [1, 2], None), ("lost", 6, [1, 2]),
            ([1, 2], "great"), ("", [1, 2]), ("Great", [1, 2]), ("LOST", [1, 2], 6), ("lost ", [1, 2], 6),
            (None, [1, 2]), (True, [1, 2], 6), (("lost",), [1, 2], 6), (["great"], [1, 2]), ({}, [1, 2], 6), [],
        ):
            self.check(thing, False)

    def test_loads_of_other_kinds(self):
        for load in (None, "6", "", (6,), [6], {}, {6: 6}, (), []):
            self.check(("lost", [1, 2], load), False)

    def test_things_of_any_kind(self):
        for thing in odd_things(8):
            self.check(thing, False)
            self.check((thing,), False)
            self.check(("great", thing), False)
            self.check(("lost", thing, 6), False)
            self.check(("lost", [1, 2], thing), is_integer(thing) and thing == 6)
            self.check((thing, [1, 2]), False)
            self.check((thing, [1, 2], 6), False)
            self.check(("great", [thing]), is_integer(thing) and thing in (1, 2), 0)

    def test_the_answer_is_true_or_false(self):
        for thing in (("lost", [1, 2], 6), ("great", []), (), None):
            self.assertIs(type(shows_no(PART, NARROW, RIVAL, 0, thing)), bool)

    def test_each_no_of_no_words_and_other_chains(self):
        numbers = Numbers(111)
        shown = {True: 0, False: 0}
        for _ in range(400):
            part, machine, rival = some_case(numbers)
            rows, _ = with_words_told(part, rival)
            jumps = jumps_of(rows)
            if len(rows) > 20 or len(jumps) > 3:
                continue
            size = 5 + numbers.below(40)
            told = no_words(part, machine, rival, size)
            self.assertTrue(told is None or shows_no(part, machine, rival, size, told), (part, machine, rival, size))
            for many in range(len(jumps) + 1):
                for chain in itertools.permutations(jumps, many):
                    is_chain = is_chain_told(rows, machine, chain)
                    forms = [row for row in jumps if row not in chain]
                    great = is_chain and size_told(rows, machine, forms) >= size
                    self.assertIs(shows_no(part, machine, rival, size, ("great", list(chain))), great)
                    loads = unserved_told(rows, machine, forms)
                    for load in range(len(rows)):
                        answer = shows_no(part, machine, rival, size, ("lost", list(chain), load))
                        self.assertIs(answer, is_chain and load in loads, (part, machine, rival, chain, load))
                        shown[answer] += 1
        self.assertGreater(min(shown.values()), 200, shown)

    def test_what_a_no_shows_is_so_as_laid(self):
        numbers = Numbers(112)
        great = lost = 0
        for _ in range(400):
            part, machine, rival = some_case(numbers)
            rows = with_words_told(part, rival)[0]
            jumps = jumps_of(rows)
            if len(rows) > 20 or len(jumps) > 3:
                continue
            forms, addresses = laid(rows, machine)
            loads = [load for load, word in served(rows, machine, forms).items() if word is None]
            for chain in itertools.chain(*[itertools.permutations(jumps, many) for many in range(len(jumps) + 1)]):
                for size in (addresses[-1] - 2, addresses[-1] + 1):
                    if shows_no(part, machine, rival, size, ("great", list(chain))):
                        great += 1
                        self.assertGreaterEqual(addresses[-1], size, (part, machine, rival, chain))
                for load in range(len(rows)):
                    if shows_no(part, machine, rival, 0, ("lost", list(chain), load)):
                        lost += 1
                        self.assertIn(load, loads, (part, machine, rival, chain))
        self.assertGreater(min(great, lost), 100)


class TestWrongArguments(unittest.TestCase):
    """For both functions alike, whatever the thing."""

    UNEVEN = PART[:-2] + (("align", 4), STOP)
    BAD_RIVALS = (
        None, True, (), ((4, 7),), [[4, 7]], [(4, 7), (4, 7)], [(5, 7), (4, 7)], [(0, 7)], [(8, 7)], [(4, -1)],
        [(4, 65536)], [(True, 7)], [(4, True)], [(4,)], [4], {}, {4: 7}, [(7, value) for value in range(14)],
        nested(list, 10),
    )
    BAD_SIZES = (None, True, False, -1, 10 ** 6 + 1, 10 ** 20, -10 ** 20, "1", "", (1,), [1], {1: 1}, {}, [], ())

    def check(self, part, machine, rival, size, error):
        with self.subTest(part=repr(part)[:60], machine=machine, rival=repr(rival)[:60], size=repr(size)[:60]):
            self.assertIs(refusal(no_words, part, machine, rival, size), error)
            for thing in (("great", []), ("lost", [], 0), None):
                self.assertIs(refusal(shows_no, part, machine, rival, size, thing), error)

    def test_rivals_that_are_not_placed(self):
        for rival in self.BAD_RIVALS:
            self.check(PART, NARROW, rival, 36, NoPlaced)

    def test_rivals_that_would_make_too_many_rows(self):
        for many in range(20):
            rival = [(7, value) for value in range(many)]
            self.check(PART, NARROW, rival, 36, None if many <= 13 else NoPlaced)

    def test_sizes_that_there_are_not(self):
        for size in self.BAD_SIZES:
            self.check(PART, NARROW, RIVAL, size, NoSize)
        for size in (0, 1, 65536, 10 ** 6 - 1, 10 ** 6):
            self.check(PART, NARROW, RIVAL, size, None)

    def test_the_order_of_the_errors(self):
        for size in self.BAD_SIZES + (36,):
            for rival in self.BAD_RIVALS:
                self.check(PART, NARROW, rival, size, NoPlaced)
                self.check(PART, None, rival, size, NoMachine)
                self.check(self.UNEVEN, None, rival, size, NoEven)
                self.check(list(self.UNEVEN), None, rival, size, NoPart)
            self.check(self.UNEVEN, NARROW, RIVAL, size, NoEven)
            self.check(PART, (), RIVAL, size, NoMachine)

    def test_odd_values(self):
        for value in odd_values():
            self.check(value, NARROW, RIVAL, 36, NoPart)
            self.check(PART, value, RIVAL, 36, NoMachine)
            self.check(PART, NARROW, value, 36, NoPlaced)
            self.check(PART, NARROW, RIVAL, value, None if is_integer(value) and 0 <= value <= 2 else NoSize)
            self.check(value, value, value, value, NoPart)

    def test_no_thing_is_refused(self):
        for thing in odd_things():
            self.assertIs(refusal(shows_no, PART, NARROW, RIVAL, 36, thing), None)
            self.assertIs(refusal(shows_no, PART, NARROW, RIVAL, -1, thing), NoSize)


if __name__ == "__main__":
    unittest.main()
