"""[7]: least."""

import unittest

from reachrows.aligned import least
from reachrows.books import is_part
from reachrows.errors import NoMachine, NoPart, TooMany
from reachrows.growing import grown
from tests.oracles import fitting_told, jumps_of, least_told, size_told, some_machine, some_rows
from tests.support import MACHINE, Numbers, machine_with, odd_values, put, refusal

STOP = ("stop", 1)
ALIGNED_KINDS = ("branch", "branch", "branch", "jump", "plain", "align", "align")


def aligned_parts(seed, many):
    """Parts with "align" that a long row may bring nearer, most goals being near the end, and machines for them."""
    numbers = Numbers(seed)
    for _ in range(many):
        rows = 4 + numbers.below(4)
        part = some_rows(numbers, rows, ALIGNED_KINDS, size=14)
        for at in jumps_of(part):
            if numbers.below(3) > 0:
                part = put(part, at, (part[at][0], rows - 1 - numbers.below(3)))
        machine = some_machine(numbers)
        if is_part(part) and len(jumps_of(part)) <= 6:
            yield part, machine[:1] + (6 + numbers.below(22),) + machine[2:]


class TestLeast(unittest.TestCase):

    def check(self, part, machine, answer):
        with self.subTest(part=part, machine=machine):
            self.assertEqual(least(part, machine), answer)

    def test_the_answer_is_a_list_of_integers(self):
        for part in ((STOP,), (("jump", 0),), (("branch", 2), ("align", 4), STOP)):
            answer = least(part, MACHINE)
            self.assertIs(type(answer), list)
            self.assertEqual({type(row) for row in answer} | {int}, {int})

    def test_parts_without_jumps(self):
        self.check((STOP,), MACHINE, [])
        self.check((("align", 16), STOP), MACHINE, [])
        self.check((("load", 1), STOP, ("word", 1)), MACHINE, [])

    def test_all_short_where_all_fit(self):
        part = (("branch", 3), ("branch", 0), ("align", 16), ("jump", 3))
        self.check(part, machine_with(reach=16), [0, 1, 3])

    def test_all_long_where_none_fits(self):
        part = (("branch", 2), ("align", 16), ("jump", 0))
        self.check(part, machine_with(reach=12), [])

    def test_one_long_row_brings_another_one_nearer(self):
        part = (("branch", 4), ("branch", 4), ("plain", 9, 1), ("align", 16), STOP)
        self.check(part, machine_with(reach=13), [1])
        # Row 0 would become long first, if rows became long one by one; with [0] it does not fit.
        self.check(part, machine_with(reach=12), [])
        self.check(part, machine_with(reach=15), [1])
        self.check(part, machine_with(reach=16), [0, 1])

    def test_the_size_comes_ahead_of_the_number_of_long_rows(self):
        part = (("branch", 2), ("branch", 2), ("align", 16), ("branch", 2), ("stop", 14))
        machine = (1, 8, 6, 3, 60, 3, 9, 1)
        # With one long row, the last one, the part would be 5 bytes longer.
        self.assertEqual([size_told(part, machine, forms) for forms in ([0, 1], [3])], [36, 31])
        self.assertEqual(fitting_told(part, machine), [[], [3], [1], [0], [0, 1]])
        self.check(part, machine, [3])

    def test_of_one_size_the_one_with_fewer_long_rows(self):
        part = (("branch", 0), ("branch", 3), ("align", 16), STOP)
        machine = (3, 9, 4, 3, 60, 1, 20, 4)
        self.assertEqual(fitting_told(part, machine), [[], [0]])
        self.assertEqual([size_told(part, machine, forms) for forms in ([], [0])], [17, 17])
        self.check(part, machine, [0])
        self.check(part, machine_with(reach=16), [0, 1])

    def test_of_one_size_and_as_many_long_rows_the_first_forms_ascending(self):
        part = (("branch", 0), ("branch", 3), ("align", 16), ("stop", 6))
        machine = (1, 14, 6, 5, 60, 4, 27, 4)
        self.assertEqual(fitting_told(part, machine), [[], [1], [0]])
        self.assertEqual([size_told(part, machine, forms) for forms in ([0], [1])], [22, 22])
        self.check(part, machine, [0])

    def test_even_parts_as_grown(self):
        numbers = Numbers(70)
        for _ in range(400):
            part = some_rows(numbers, 2 + numbers.below(8), ("plain", "branch", "jump", "load", "word", "stop"))
            machine = some_machine(numbers, reach=20)
            if len(jumps_of(part)) <= 6:
                self.check(part, machine, grown(part, machine)[0])

    def test_against_all_forms(self):
        ties = many = 0
        for part, machine in aligned_parts(71, 2500):
            answer = least(part, machine)
            self.assertEqual(answer, least_told(part, machine), (part, machine))
            fitting = fitting_told(part, machine)
            sizes = [size_told(part, machine, forms) for forms in fitting]
            ties += sizes.count(min(sizes)) > 1
            many += 0 < len(answer) < len(jumps_of(part))
        self.assertGreater(ties, 300)
        self.assertGreater(many, 300)

    def test_there_may_be_no_greatest_list(self):
        without_greatest = 0
        for part, machine in aligned_parts(72, 6000):
            fitting = fitting_told(part, machine)
            if sorted({row for forms in fitting for row in forms}) not in fitting:
                without_greatest += 1
                self.check(part, machine, least_told(part, machine))
        self.assertGreater(without_greatest, 3)


class TestWrongArguments(unittest.TestCase):

    def test_six_rows_are_not_too_many(self):
        for part in ((("branch", 0),) * 6 + (STOP,), (("align", 2),) + (("branch", 0),) * 6 + (STOP,)):
            self.assertIs(refusal(least, part, MACHINE), None)
            self.assertIs(refusal(least, part + (STOP,) * 12, MACHINE), None)

    def test_seven_rows_and_more(self):
        for many in range(7, 20):
            for word in ("jump", "branch"):
                part = ((word, 0),) * many + (STOP,)
                self.assertIs(refusal(least, part, MACHINE), TooMany)
                self.assertIs(refusal(least, part, machine_with(reach=999)), TooMany)
        self.assertIs(refusal(least, (("branch", 0), ("jump", 1)) * 3 + (("jump", 2),), MACHINE), TooMany)

    def test_too_many_comes_behind_all_other_errors(self):
        part = (("branch", 0),) * 7 + (STOP,)
        for machine in (None, (), list(MACHINE), machine_with(short=3)):
            self.assertIs(refusal(least, part, machine), NoMachine)
        self.assertIs(refusal(least, list(part), MACHINE), NoPart)
        self.assertIs(refusal(least, (("align", 2),) + part, MACHINE), NoPart)

    def test_odd_values(self):
        for value in odd_values():
            with self.subTest(value=repr(value)[:60]):
                self.assertIs(refusal(least, value, MACHINE), NoPart)
                self.assertIs(refusal(least, (STOP,), value), NoMachine)
                self.assertIs(refusal(least, value, value), NoPart)


if __name__ == "__main__":
    unittest.main()
