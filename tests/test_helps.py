"""[8]: helps and shows_help."""

import itertools
import unittest

from reachrows.aligned import helps, shows_help
from reachrows.errors import NoForms, NoMachine, NoPart, NoRow, TooMany
from tests.oracles import all_forms, helps_told, jumps_of, some_machine, some_rows, unfit_told
from tests.support import MACHINE, Numbers, machine_with, nested, odd_values, refusal
from tests.test_growing import EVEN_KINDS
from tests.test_least import aligned_parts

STOP = ("stop", 1)
PART = (("branch", 4), ("branch", 4), ("plain", 9, 1), ("align", 16), STOP)
HELPING = machine_with(reach=13)


def helping_parts():
    """Parts of which some have rows that help others, and machines for them."""
    return list(aligned_parts(80, 2500))


class TestHelps(unittest.TestCase):

    def check(self, part, machine, answer):
        with self.subTest(part=part, machine=machine):
            self.assertEqual(helps(part, machine), answer)

    def test_the_answer_is_a_list_of_tuples_of_integers(self):
        answer = helps(PART, HELPING)
        self.assertIs(type(answer), list)
        self.assertEqual([[type(row) for row in pair] for pair in answer], [[int, int]])
        self.assertEqual([type(pair) for pair in answer], [tuple])

    def test_a_row_ahead_that_helps(self):
        self.check(PART, machine_with(reach=13), [(0, 1)])
        self.check(PART, machine_with(reach=14), [(0, 1)])
        # With row 0 long, row 1 lies 13 bytes ahead of its goal; with row 0 short, 15.
        self.check(PART, machine_with(reach=12), [])
        self.check(PART, machine_with(reach=15), [])

    def test_two_rows_that_help_a_third_one(self):
        part = (("branch", 2), ("branch", 2), ("align", 16), ("branch", 2), ("stop", 14))
        self.check(part, (1, 8, 6, 3, 60, 3, 9, 1), [(0, 3), (1, 3)])

    def test_parts_without_jumps_or_with_one(self):
        for machine in (MACHINE, machine_with(reach=0)):
            self.check((STOP,), machine, [])
            self.check((("align", 4), STOP), machine, [])
            self.check((("branch", 2), ("align", 16), STOP), machine, [])

    def test_even_parts(self):
        numbers = Numbers(81)
        for _ in range(300):
            part, machine = some_rows(numbers, 2 + numbers.below(7), EVEN_KINDS), some_machine(numbers, reach=15)
            if len(jumps_of(part)) <= 6:
                self.check(part, machine, [])
        self.check((("branch", 5), ("branch", 5)) + (("plain", 9, 0),) * 3 + (STOP,), machine_with(reach=28), [])

    def test_against_all_forms(self):
        pairs = parts = 0
        for part, machine in helping_parts():
            answer = helps_told(part, machine)
            self.check(part, machine, answer)
            pairs += len(answer)
            parts += answer != []
        self.assertGreater(pairs, parts)
        self.assertGreater(parts, 20)

    def test_six_rows_are_not_too_many(self):
        self.check((("branch", 0),) * 6 + (STOP,), MACHINE, [])
        self.assertIs(refusal(helps, (("align", 2),) + (("branch", 0),) * 6 + (STOP,), MACHINE), None)

    def test_seven_rows_and_more(self):
        for many in range(7, 20):
            self.assertIs(refusal(helps, (("branch", 0),) * many + (STOP,), MACHINE), TooMany)
            self.assertIs(refusal(helps, (("jump", 0),) * many + (STOP,), MACHINE), TooMany)

    def test_too_many_comes_behind_all_other_errors(self):
        part = (("branch", 0),) * 7 + (STOP,)
        for machine in (None, (), list(MACHINE), machine_with(short=3)):
            self.assertIs(refusal(helps, part, machine), NoMachine)
        self.assertIs(refusal(helps, list(part), MACHINE), NoPart)

    def test_odd_values(self):
        for value in odd_values():
            with self.subTest(value=repr(value)[:60]):
                self.assertIs(refusal(helps, value, MACHINE), NoPart)
                self.assertIs(refusal(helps, PART, value), NoMachine)
                self.assertIs(refusal(helps, value, value), NoPart)


class TestShowsHelp(unittest.TestCase):

    def check(self, a, b, rival, answer, part=PART, machine=HELPING):
        with self.subTest(a=a, b=b, rival=rival, part=part):
            self.assertIs(shows_help(part, machine, a, b, rival), answer)

    def test_a_row_that_helps(self):
        self.check(0, 1, [0, 1], True)
        self.check(1, 0, [0, 1], False)

    def test_one_row(self):
        for rival in ([], [0], [1], [0, 1]):
            self.check(0, 0, rival, False)
            self.check(1, 1, rival, False)

    def test_a_rival_without_one_of_them(self):
        for rival in ([], [0], [1]):
            self.check(0, 1, rival, False)
            self.check(1, 0, rival, False)

    def test_a_row_that_fits_already(self):
        self.check(0, 1, [0, 1], True, PART, machine_with(reach=14))
        self.check(0, 1, [0, 1], False, PART, machine_with(reach=15))

    def test_a_row_that_does_not_fit_then_either(self):
        self.check(0, 1, [0, 1], False, PART, machine_with(reach=12))

    def test_other_rows_may_be_long_with_the_rival(self):
        part = (("branch", 2), ("branch", 2), ("align", 16), ("branch", 2), ("stop", 14))
        machine = (1, 8, 6, 3, 60, 3, 9, 1)
        told = {(0, 3): [[0, 3]], (1, 3): [[1, 3]]}
        for a, b in itertools.product((0, 1, 3), repeat=2):
            for rival in all_forms(part):
                self.check(a, b, rival, rival in told.get((a, b), []), part, machine)

    def test_more_than_six_rows(self):
        part = (("branch", 0),) * 10 + (STOP,)
        self.check(0, 9, list(range(10)), False, part)
        self.check(3, 4, [3, 4], False, part, machine_with(reach=0))

    def test_against_all_rivals(self):
        shown = 0
        for part, machine in helping_parts()[:800]:
            for a, b in itertools.product(jumps_of(part), repeat=2):
                for rival in all_forms(part):
                    answer = False
                    if a != b and a in rival and b in rival and b in unfit_told(part, machine, rival):
                        others = [row for row in rival if row != a]
                        answer = b not in unfit_told(part, machine, others)
                    self.assertIs(shows_help(part, machine, a, b, rival), answer, (part, machine, a, b, rival))
                    shown += answer
        self.assertGreater(shown, 10)

    def test_helps_has_just_those_that_some_rival_shows(self):
        for part, machine in helping_parts()[:400]:
            shown = []
            for pair in itertools.product(jumps_of(part), repeat=2):
                if any(shows_help(part, machine, *pair, rival) for rival in all_forms(part)):
                    shown.append(pair)
            self.assertEqual(helps(part, machine), shown, (part, machine))


class TestErrorsOfShowsHelp(unittest.TestCase):

    NO_ROWS = (
        2, 3, 4, 5, -1, -5, 20, 10 ** 20, -10 ** 20, True, False, None, "0", "", (0,), [0], {}, {0: 0}, (), [],
    )
    NO_FORMS = (None, True, (), (0,), (0, 1), [1, 0], [0, 0], [2], [True], [0, True], [False], {0: 1}, nested(list, 10))

    def check(self, part, machine, a, b, rival, error):
        with self.subTest(a=repr(a)[:60], b=repr(b)[:60], rival=repr(rival)[:60]):
            self.assertIs(refusal(shows_help, part, machine, a, b, rival), error)

    def test_rows_that_are_none(self):
        for row in self.NO_ROWS:
            self.check(PART, HELPING, row, 1, [0, 1], NoRow)
            self.check(PART, HELPING, 0, row, [0, 1], NoRow)
            self.check(PART, HELPING, row, row, [0, 1], NoRow)

    def test_rows_of_all_other_kinds(self):
        part = (("plain", 1, 1), ("load", 1), ("align", 2), ("far", 0), STOP, ("word", 1), ("jump", 0), ("branch", 0))
        part += (STOP,)
        for row in (0, 1, 2, 3, 4, 5, 8, 9):
            self.check(part, MACHINE, row, 6, [], NoRow)
            self.check(part, MACHINE, 7, row, [], NoRow)
        for a, b in itertools.product((6, 7), repeat=2):
            self.check(part, MACHINE, a, b, [], None)

    def test_rivals_that_are_none(self):
        for rival in self.NO_FORMS:
            self.check(PART, HELPING, 0, 1, rival, NoForms)
            self.check(PART, HELPING, 0, 0, rival, NoForms)

    def test_the_order_of_the_errors_is_that_of_the_arguments(self):
        for rival in self.NO_FORMS:
            for row in self.NO_ROWS:
                self.check(PART, HELPING, row, 1, rival, NoRow)
                self.check(PART, HELPING, 0, row, rival, NoRow)
                self.check(PART, None, row, row, rival, NoMachine)
                self.check(None, None, row, row, rival, NoPart)
                self.check(list(PART), HELPING, row, row, rival, NoPart)

    def test_it_is_never_too_many(self):
        part = (("branch", 0),) * 19 + (STOP,)
        self.check(part, MACHINE, 0, 1, [0, 1], None)
        self.check(part, MACHINE, 0, 19, [0, 1], NoRow)

    def test_odd_values(self):
        for value in odd_values():
            self.check(value, HELPING, 0, 1, [0, 1], NoPart)
            self.check(PART, value, 0, 1, [0, 1], NoMachine)
            self.check(PART, HELPING, 0, 1, value, NoForms)
            if type(value) is not int or value not in (0, 1):
                self.check(PART, HELPING, value, 1, [0, 1], NoRow)
                self.check(PART, HELPING, 0, value, [0, 1], NoRow)


if __name__ == "__main__":
    unittest.main()
