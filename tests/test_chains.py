"""[6]: shows_chain."""

import itertools
import unittest

from reachrows.errors import NoEven, NoMachine, NoPart
from reachrows.growing import grown, shows_chain
from tests.oracles import fitting_told, is_chain_told, jumps_of, some_machine, some_rows
from tests.support import MACHINE, Numbers, is_integer, machine_with, odd_things, odd_values, put, refusal
from tests.test_growing import CASCADE, CASCADE_MACHINE, EVEN_KINDS, STOP

# With this reach 1 does not fit, and 0 does not as soon as 1 is long; 5 and 6 do not, each by itself.
PART = (("branch", 2), ("branch", 4), STOP, ("plain", 9, 0), STOP, ("branch", 0), ("jump", 0))
NARROW = machine_with(reach=3)


def lists_of_small_parts(seed):
    """Even parts of few jumps, machines for them, and for each all lists of different rows of these."""
    numbers = Numbers(seed)
    for _ in range(250):
        part, machine = some_rows(numbers, 3 + numbers.below(4), EVEN_KINDS), some_machine(numbers, reach=15)
        jumps = jumps_of(part)
        if len(jumps) <= 4:
            lists = [list(rows) for many in range(len(jumps) + 1) for rows in itertools.permutations(jumps, many)]
            yield part, machine, lists


class TestShowsChain(unittest.TestCase):

    def check(self, thing, answer, part=PART, machine=NARROW):
        with self.subTest(thing=repr(thing)[:60]):
            self.assertIs(shows_chain(part, machine, thing), answer)

    def test_the_chain_of_grown(self):
        self.assertEqual(grown(PART, NARROW), ([], [1, 0, 5, 6]))
        self.check([1, 0, 5, 6], True)
        self.check(grown(CASCADE, CASCADE_MACHINE)[1], True, CASCADE, CASCADE_MACHINE)

    def test_chains_in_other_orders(self):
        for thing in ([5, 1, 0, 6], [6, 5, 1, 0], [1, 6, 0, 5], [1, 5, 6, 0], [6, 1, 0, 5]):
            self.check(thing, True)

    def test_parts_of_a_chain(self):
        for thing in ([], [1], [5], [6], [1, 0], [1, 5], [6, 5], [1, 0, 6], [5, 6, 1]):
            self.check(thing, True)

    def test_a_row_ahead_of_those_that_keep_it_from_fitting(self):
        for thing in ([0], [0, 1], [0, 1, 5, 6], [5, 0, 1], [5, 6, 0, 1], [6, 0], [5, 0]):
            self.check(thing, False)

    def test_a_row_more(self):
        for row in (2, 3, 4, 7, -1, 20, 10 ** 20):
            self.check([1, 0, 5, 6, row], False)
            self.check([row, 1, 0, 5, 6], False)
            self.check([row], False)

    def test_a_row_that_fits_there(self):
        part = (("branch", 4), ("branch", 4), ("branch", 4), ("plain", 9, 0), STOP)
        machine = machine_with(reach=10)
        self.check([0, 1], True, part, machine)
        self.check([1, 0], True, part, machine)
        self.check([0, 1, 2], False, part, machine)
        self.check([2], False, part, machine)
        self.check([2, 0, 1], False, part, machine)

    def test_a_row_twice(self):
        for thing in ([1, 1], [1, 0, 1], [1, 0, 5, 6, 6], [5, 5], [1] * 2000, [1, 0, 5, 6, 1]):
            self.check(thing, False)

    def test_rows_exchanged_in_a_long_chain(self):
        chain = grown(CASCADE, CASCADE_MACHINE)[1]
        self.check(chain, True, CASCADE, CASCADE_MACHINE)
        # Each row of the cascade needs the one two rows on, or the next one, to be long.
        self.check(chain[1:], False, CASCADE, CASCADE_MACHINE)
        self.check(chain[:3] + chain[4:], False, CASCADE, CASCADE_MACHINE)
        self.check(chain[1::-1] + chain[2:], False, CASCADE, CASCADE_MACHINE)
        self.check(sorted(chain), False, CASCADE, CASCADE_MACHINE)
        self.check(chain[::-1], True, CASCADE, CASCADE_MACHINE)
        for many in range(len(chain) + 1):
            self.check(chain[:many], True, CASCADE, CASCADE_MACHINE)

    def test_the_empty_list_is_a_chain_of_every_even_part(self):
        for part in ((STOP,), PART, CASCADE):
            for machine in (MACHINE, NARROW, machine_with(reach=999)):
                self.check([], True, part, machine)

    def test_what_is_no_list(self):
        for thing in ((), (1,), (1, 0, 5, 6), {}, {1: 0}, {1: True}, "", "1", None, True, False, 1, 0):
            self.check(thing, False)

    def test_booleans_in_the_place_of_rows(self):
        for thing in ([True], [True, 0], [1, False], [True, False], [True, 0, 5, 6], [1, False, 5, 6], [5, True]):
            self.check(thing, False)

    def test_other_kinds_in_the_place_of_rows(self):
        for row in (None, "1", "", (1,), [1], {}, {1: 0}, [], ()):
            self.check([row], False)
            self.check([1, row], False)
            self.check([1, 0, 5, 6, row], False)

    def test_things_of_any_kind(self):
        for thing in odd_things():
            self.check(thing, False)
            self.check([thing], is_integer(thing) and thing == 1)
            self.check([1, thing], is_integer(thing) and thing == 0)

    def test_the_answer_is_true_or_false(self):
        for thing in ([], [1], [0], None, (1,)):
            self.assertIs(type(shows_chain(PART, NARROW, thing)), bool)

    def test_all_lists_of_different_rows_of_small_parts(self):
        chains = others = reordered = 0
        for part, machine, lists in lists_of_small_parts(62):
            chain = grown(part, machine)[1]
            for rows in lists:
                answer = is_chain_told(part, machine, rows)
                self.assertIs(shows_chain(part, machine, rows), answer, (part, machine, rows))
                chains += answer
                others += not answer
                reordered += answer and rows != chain[:len(rows)]
        self.assertGreater(min(chains, others, reordered), 100)

    def test_no_row_of_a_chain_is_short_in_forms_with_which_all_fit(self):
        rows_of_chains = 0
        for part, machine, lists in lists_of_small_parts(63):
            short = {row for forms in fitting_told(part, machine) for row in forms}
            for rows in lists:
                if shows_chain(part, machine, rows):
                    rows_of_chains += len(rows)
                    self.assertEqual(short & set(rows), set(), (part, machine, rows))
        self.assertGreater(rows_of_chains, 300)


class TestWrongArguments(unittest.TestCase):

    UNEVEN = put(PART, 3, ("align", 16))

    def test_odd_values(self):
        for value in odd_values():
            with self.subTest(value=repr(value)[:60]):
                self.assertIs(refusal(shows_chain, value, NARROW, [1]), NoPart)
                self.assertIs(refusal(shows_chain, PART, value, [1]), NoMachine)
                self.assertIs(refusal(shows_chain, value, value, value), NoPart)

    def test_parts_that_are_not_even(self):
        for machine in (NARROW, None, ()):
            for thing in ([], [1], None, odd_things()):
                self.assertIs(refusal(shows_chain, self.UNEVEN, machine, thing), NoEven)

    def test_no_thing_is_refused(self):
        for thing in odd_things():
            self.assertIs(refusal(shows_chain, PART, NARROW, thing), None)
            self.assertIs(refusal(shows_chain, PART, None, thing), NoMachine)


if __name__ == "__main__":
    unittest.main()
