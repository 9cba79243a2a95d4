"""[6]: grown."""

import unittest

from reachrows.errors import NoEven, NoMachine, NoPart
from reachrows.growing import grown
from tests.oracles import all_forms, fitting_told, grown_told, is_chain_told, jumps_of, size_told, some_machine
from tests.oracles import some_rows, unfit_told
from tests.support import MACHINE, Numbers, machine_with, odd_values, refusal

STOP = ("stop", 1)
EVEN_KINDS = ("plain", "plain", "jump", "branch", "branch", "branch", "load", "word", "stop", "far")

# Each branch goes three rows on, so that it fits over short rows alone; but two of them go over the "plain".
CASCADE = tuple(("branch", row + 3) for row in range(17)) + (("plain", 9, 0), STOP, STOP)
CASCADE_MACHINE = machine_with(reach=4)


class TestGrown(unittest.TestCase):

    def check(self, part, machine, forms, chain):
        with self.subTest(part=part, machine=machine):
            self.assertEqual(grown(part, machine), (forms, chain))

    def test_the_answer_is_a_tuple_of_two_lists(self):
        for part in ((STOP,), (("jump", 0),), (("branch", 2), ("plain", 9, 0), STOP)):
            answer = grown(part, MACHINE)
            self.assertIs(type(answer), tuple)
            self.assertEqual([type(one) for one in answer], [list, list])
            self.assertEqual({type(row) for one in answer for row in one} | {int}, {int})

    def test_parts_without_jumps(self):
        for part in ((STOP,), (STOP,) * 20, (("far", 0),), (("load", 1), STOP, ("word", 1)), (("plain", 9, 9), STOP)):
            self.check(part, machine_with(reach=0), [], [])

    def test_jumps_to_themselves_stay_short(self):
        for many in (1, 2, 20):
            part = tuple(("jump", row) for row in range(many))
            self.check(part, machine_with(reach=0), list(range(many)), [])

    def test_all_stay_short_where_all_fit(self):
        part = (("branch", 3), ("branch", 1), ("plain", 9, 0), ("jump", 0))
        self.check(part, machine_with(reach=11), [0, 1, 3], [])

    def test_a_goal_ahead_at_the_reach_and_beyond_it(self):
        part = (("branch", 2), ("plain", 9, 0), STOP)
        self.check(part, machine_with(reach=10), [0], [])
        self.check(part, machine_with(reach=9), [], [0])

    def test_a_goal_behind_at_the_reach_and_beyond_it(self):
        part = (("plain", 9, 0), ("jump", 0))
        self.check(part, machine_with(reach=9), [1], [])
        self.check(part, machine_with(reach=8), [], [1])

    def test_one_that_becomes_long_makes_another_one_long(self):
        part = (("branch", 3), ("plain", 8, 0), ("jump", 0), STOP)
        self.check(part, machine_with(reach=9), [], [0, 2])
        self.check(part, machine_with(reach=10), [0, 2], [])
        self.check(part, machine_with(reach=11), [0, 2], [])

    def test_the_least_one_that_does_not_fit_comes_next(self):
        part = (("branch", 4), ("branch", 4), ("branch", 4), ("plain", 9, 0), STOP)
        self.check(part, machine_with(reach=9), [], [0, 1, 2])
        self.check(part, machine_with(reach=10), [2], [0, 1])
        self.check(part, machine_with(reach=11), [1, 2], [0])
        self.check(part, machine_with(reach=12), [0, 1, 2], [])

    def test_a_lesser_one_may_come_behind_a_greater_one(self):
        part = (("branch", 2), ("branch", 4), STOP, ("plain", 9, 0), STOP)
        self.check(part, machine_with(reach=2), [], [1, 0])
        self.check(part, machine_with(reach=4), [0], [1])

    def test_a_cascade_through_twenty_rows(self):
        chain = list(range(15, 0, -2)) + list(range(0, 17, 2))
        self.check(CASCADE, CASCADE_MACHINE, [], chain)
        self.check(CASCADE, machine_with(reach=7), list(range(15)), [15, 16])
        self.check(CASCADE, machine_with(reach=10), list(range(15)), [15, 16])
        self.check(CASCADE, machine_with(reach=11), list(range(17)), [])

    def test_twenty_jumps_back(self):
        part = (("branch", 0),) * 19 + (("jump", 0),)
        self.check(part, machine_with(reach=19), list(range(20)), [])
        self.check(part, machine_with(reach=18), list(range(19)), [19])
        self.check(part, machine_with(reach=9), list(range(10)), list(range(10, 20)))
        self.check(part, machine_with(reach=0), [0], list(range(1, 20)))

    def test_rows_that_fit_again_are_not_asked(self):
        part = (("jump", 1), ("jump", 0), ("jump", 0))
        self.check(part, machine_with(short=1, long=20, reach=1), [0, 1], [2])
        self.check(part, machine_with(short=1, long=20, reach=0), [], [0, 1, 2])

    def test_many_parts_of_up_to_twenty_rows_in_the_order_told(self):
        numbers = Numbers(6)
        lengths = set()
        for many in list(range(1, 21)) * 15:
            part = some_rows(numbers, many, EVEN_KINDS)
            machine = some_machine(numbers, reach=45)
            self.assertEqual(grown(part, machine), grown_told(part, machine), (part, machine))
            lengths.add(len(grown(part, machine)[1]))
        self.assertGreater(len(lengths), 7)

    def test_parts_of_jumps_alone(self):
        numbers = Numbers(60)
        lengths = set()
        for _ in range(200):
            part = some_rows(numbers, 20, ("jump", "branch"))[:-1] + (("jump", numbers.below(20)),)
            machine = some_machine(numbers, reach=50)
            forms, chain = grown(part, machine)
            self.assertEqual((forms, chain), grown_told(part, machine), (part, machine))
            self.assertEqual(sorted(forms + chain), jumps_of(part))
            lengths.add(len(chain))
        self.assertGreater(len(lengths), 10)


class TestGreatestForms(unittest.TestCase):

    def parts(self):
        numbers = Numbers(61)
        for _ in range(400):
            yield some_rows(numbers, 2 + numbers.below(7), EVEN_KINDS), some_machine(numbers, reach=25)

    def test_they_have_all_rows_of_all_forms_with_which_all_fit(self):
        for part, machine in self.parts():
            forms, _ = grown(part, machine)
            fitting = fitting_told(part, machine)
            self.assertIn(forms, fitting)
            self.assertEqual(forms, sorted({row for one in fitting for row in one}), (part, machine))

    def test_with_them_the_part_is_least(self):
        for part, machine in self.parts():
            forms, _ = grown(part, machine)
            sizes = [size_told(part, machine, one) for one in fitting_told(part, machine)]
            self.assertEqual(size_told(part, machine, forms), min(sizes), (part, machine))

    def test_no_greater_forms_fit(self):
        greater = 0
        for part, machine in self.parts():
            forms, _ = grown(part, machine)
            self.assertEqual(unfit_told(part, machine, forms), [])
            for others in all_forms(part):
                if set(others) > set(forms):
                    greater += 1
                    self.assertNotEqual(unfit_told(part, machine, others), [], (part, machine, others))
        self.assertGreater(greater, 100)

    def test_the_rows_that_became_long_are_a_chain(self):
        for part, machine in self.parts():
            self.assertTrue(is_chain_told(part, machine, grown(part, machine)[1]), (part, machine))


class TestWrongArguments(unittest.TestCase):

    UNEVEN = (("branch", 2), ("align", 4), STOP)

    def test_parts_that_are_not_even(self):
        for part in (self.UNEVEN, (("align", 2), STOP), (STOP, ("align", 16), STOP), (("align", 2),) * 19 + (STOP,)):
            self.assertIs(refusal(grown, part, MACHINE), NoEven)

    def test_odd_values(self):
        for value in odd_values():
            with self.subTest(value=repr(value)[:60]):
                self.assertIs(refusal(grown, value, MACHINE), NoPart)
                self.assertIs(refusal(grown, (STOP,), value), NoMachine)
                self.assertIs(refusal(grown, value, None), NoPart)

    def test_no_even_stands_behind_no_part_and_ahead_of_no_machine(self):
        self.assertIs(refusal(grown, (("align", 4),), MACHINE), NoPart)
        self.assertIs(refusal(grown, [("align", 4), STOP], None), NoPart)
        self.assertIs(refusal(grown, (("align", 2),) + (("jump", 0),) * 7, MACHINE), NoPart)
        for machine in (None, (), list(MACHINE), machine_with(short=3), machine_with(reach=True)):
            self.assertIs(refusal(grown, self.UNEVEN, machine), NoEven)
            self.assertIs(refusal(grown, (STOP,), machine), NoMachine)


if __name__ == "__main__":
    unittest.main()
