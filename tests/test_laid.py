"""[7]: bar and laid."""

import unittest

from reachrows.aligned import bar, laid, least
from reachrows.errors import NoForms, NoMachine, NoPart
from reachrows.growing import grown
from reachrows.places import places
from tests.oracles import all_forms, bytes_of, jumps_of, least_told, some_machine, some_rows, unfit_told
from tests.support import MACHINE, Numbers, machine_with, nested, odd_values, refusal
from tests.test_growing import CASCADE, CASCADE_MACHINE, EVEN_KINDS
from tests.test_least import aligned_parts

STOP = ("stop", 1)


class TestBar(unittest.TestCase):

    PART = (("branch", 4), ("branch", 3), ("plain", 5, 1), ("plain", 5, 1), ("branch", 3), ("jump", 1))

    def check(self, part, machine, rival, answer):
        with self.subTest(part=part, machine=machine, rival=rival):
            self.assertEqual(bar(part, machine, rival), answer)

    def test_none_if_all_fit(self):
        for rival in ([], [0], [1], [4], [5], [0, 1], [0, 1, 4, 5]):
            self.assertIsNone(bar(self.PART, machine_with(reach=999), rival))
        self.assertIsNone(bar((STOP,), machine_with(reach=0), []))
        self.assertIsNone(bar((("jump", 0),), machine_with(reach=0), [0]))

    def test_the_answer_is_an_integer_or_none(self):
        self.assertIs(type(bar(self.PART, machine_with(reach=0), [0, 1])), int)
        self.assertIs(bar(self.PART, machine_with(reach=0), []), None)

    def test_the_least_of_several_that_do_not_fit(self):
        for reach, answer in ((12, None), (11, 0), (6, 0), (5, 0), (0, 0)):
            self.check(self.PART, machine_with(reach=reach), [0, 1, 4, 5], answer)
        # With rows 0 and 4 long, row 1 lies 6 bytes from its goal, and row 5 lies 14 from its own.
        for reach, answer in ((15, None), (14, None), (13, 5), (6, 5), (5, 1), (0, 1)):
            self.check(self.PART, machine_with(reach=reach), [1, 5], answer)

    def test_only_short_rows_count(self):
        machine = machine_with(reach=5)
        self.check(self.PART, machine, [4], None)
        self.check(self.PART, machine, [4, 5], 5)
        self.check(self.PART, machine, [1, 4], 1)
        self.check(self.PART, machine, [0, 4], 0)
        self.check(self.PART, machine, [], None)

    def test_a_row_at_the_reach_and_beyond_it(self):
        part = (("branch", 2), ("plain", 9, 1), STOP)
        self.check(part, machine_with(reach=10), [0], None)
        self.check(part, machine_with(reach=9), [0], 0)
        self.check(part, machine_with(reach=9), [], None)

    def test_rivals_of_parts_with_align(self):
        part = (("branch", 4), ("branch", 4), ("plain", 9, 1), ("align", 16), STOP)
        machine = machine_with(reach=13)
        for rival, answer in (([0, 1], 0), ([0], 0), ([1], None), ([], None)):
            self.check(part, machine, rival, answer)

    def test_more_than_six_rows(self):
        self.check(CASCADE, CASCADE_MACHINE, list(range(17)), 15)
        self.check(CASCADE, CASCADE_MACHINE, list(range(15)), 13)
        self.check(CASCADE, CASCADE_MACHINE, [16], 16)
        self.check(CASCADE, CASCADE_MACHINE, [], None)

    def test_all_rivals_of_many_parts(self):
        numbers = Numbers(73)
        answers = []
        parts = list(aligned_parts(74, 300))
        for _ in range(300):
            parts.append((some_rows(numbers, 3 + numbers.below(5), EVEN_KINDS), some_machine(numbers, reach=20)))
        for part, machine in parts:
            for rival in all_forms(part):
                answers.append(bar(part, machine, rival))
                self.assertEqual(answers[-1], bar_told(part, machine, rival), (part, machine, rival))
        self.assertGreater(answers.count(None), 300)
        self.assertGreater(len(answers) - answers.count(None), 300)
        self.assertGreater(len(set(answers)), 6)

    def test_the_forms_of_grown_and_least_have_no_bar(self):
        for part, machine in aligned_parts(75, 200):
            self.assertIsNone(bar(part, machine, least(part, machine)))
        self.assertIsNone(bar(CASCADE, CASCADE_MACHINE, grown(CASCADE, CASCADE_MACHINE)[0]))

    def test_rivals_that_are_none(self):
        rivals = (
            None, True, (), (0,), (0, 1), {}, {0: 1}, "0", 0, [2], [6], [-1], [-6], [1, 0], [0, 0], [0, 2], [True],
            [0, True], [False], [False, 1], [None], ["0"], [(0,)], [[0]], [0, None], [0] * 2000, nested(list, 10),
        )
        for rival in rivals:
            with self.subTest(rival=repr(rival)[:60]):
                self.assertIs(refusal(bar, self.PART, MACHINE, rival), NoForms)

    def test_odd_values(self):
        for value in odd_values():
            with self.subTest(value=repr(value)[:60]):
                self.assertIs(refusal(bar, value, MACHINE, []), NoPart)
                self.assertIs(refusal(bar, self.PART, value, []), NoMachine)
                self.assertIs(refusal(bar, self.PART, MACHINE, value), NoForms)
                self.assertIs(refusal(bar, self.PART, value, value), NoMachine)
                self.assertIs(refusal(bar, value, value, value), NoPart)


def bar_told(part, machine, rival):
    """The least row that does not fit, or None."""
    return min(unfit_told(part, machine, rival), default=None)


class TestLaid(unittest.TestCase):

    def check(self, part, machine, forms):
        line, begins = bytes_of(part, machine, forms)
        self.assertEqual(laid(part, machine), (forms, begins + [len(line)]), (part, machine))
        self.assertEqual(laid(part, machine)[1], places(part, machine, forms))

    def test_the_answer_is_a_tuple_of_two_lists(self):
        for part in ((STOP,), (("jump", 0),), (("branch", 2), ("align", 4), STOP)):
            answer = laid(part, MACHINE)
            self.assertIs(type(answer), tuple)
            self.assertEqual([type(one) for one in answer], [list, list])

    def test_an_even_part(self):
        part = (("branch", 3), ("plain", 8, 0), ("jump", 0), STOP)
        self.assertEqual(laid(part, machine_with(reach=9)), ([], [0, 3, 11, 14, 15]))
        self.assertEqual(laid(part, machine_with(reach=10)), ([0, 2], [0, 1, 9, 10, 11]))
        self.assertEqual(laid((STOP,), MACHINE), ([], [0, 1]))

    def test_a_part_with_align(self):
        part = (("branch", 4), ("branch", 4), ("plain", 9, 1), ("align", 16), STOP)
        self.assertEqual(laid(part, machine_with(reach=13)), ([1], [0, 3, 4, 13, 16, 17]))
        self.assertEqual(laid(part, machine_with(reach=16)), ([0, 1], [0, 1, 2, 11, 16, 17]))
        self.assertEqual(laid((("align", 4), STOP), MACHINE), ([], [0, 0, 1]))

    def test_even_parts_of_more_than_six_jumps(self):
        self.check(CASCADE, CASCADE_MACHINE, [])
        self.check(CASCADE, machine_with(reach=10), list(range(15)))
        self.check((("jump", 0),) * 20, machine_with(reach=9), list(range(10)))

    def test_many_even_parts(self):
        numbers = Numbers(76)
        for many in list(range(1, 21)) * 8:
            part, machine = some_rows(numbers, many, EVEN_KINDS), some_machine(numbers, reach=40)
            self.check(part, machine, grown(part, machine)[0])
            if len(jumps_of(part)) <= 6:
                self.check(part, machine, least_told(part, machine))

    def test_many_parts_with_align(self):
        uneven = 0
        for part, machine in aligned_parts(77, 600):
            self.check(part, machine, least_told(part, machine))
            uneven += any(row[0] == "align" for row in part)
        self.assertGreater(uneven, 300)

    def test_odd_values(self):
        for value in odd_values():
            with self.subTest(value=repr(value)[:60]):
                self.assertIs(refusal(laid, value, MACHINE), NoPart)
                self.assertIs(refusal(laid, (STOP,), value), NoMachine)
                self.assertIs(refusal(laid, value, value), NoPart)

    def test_a_part_with_align_and_seven_jumps_is_none(self):
        self.assertIs(refusal(laid, (("align", 2),) + (("jump", 0),) * 7, MACHINE), NoPart)
        self.assertIs(refusal(laid, (("align", 2),) + (("jump", 0),) * 6, MACHINE), None)


if __name__ == "__main__":
    unittest.main()
