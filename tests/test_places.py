"""[5]: places, and the errors that it shares with misfits and served."""

import unittest

from reachrows.errors import NoForms, NoMachine, NoPart
from reachrows.places import misfits, places, served
from tests.support import MACHINE, SORTED_OUT, machine_with, nested, odd_values, refusal

STOP = ("stop", 1)


class TestPlaces(unittest.TestCase):

    def check(self, part, machine, forms, answer):
        with self.subTest(part=part, forms=forms):
            self.assertEqual(places(part, machine, forms), answer)

    def test_the_answer_is_a_list_of_integers_one_longer_than_the_part(self):
        for many in range(1, 21):
            answer = places((STOP,) * many, MACHINE, [])
            self.assertIs(type(answer), list)
            self.assertEqual([type(address) for address in answer], [int] * (many + 1))

    def test_plain_and_stop_rows_have_their_own_sizes(self):
        self.check((STOP,), MACHINE, [], [0, 1])
        self.check((("plain", 99, 7), ("plain", 1, 999), ("stop", 99)), MACHINE, [], [0, 99, 100, 199])

    def test_all_other_sizes_are_the_machines(self):
        part = (("load", 9), ("far", 0), ("word", 9), ("jump", 0), ("branch", 0), STOP)
        self.check(part, SORTED_OUT, [], [0, 7, 20, 25, 36, 47, 48])
        self.check(part, SORTED_OUT, [3], [0, 7, 20, 25, 28, 39, 40])
        self.check(part, SORTED_OUT, [4], [0, 7, 20, 25, 36, 39, 40])
        self.check(part, SORTED_OUT, [3, 4], [0, 7, 20, 25, 28, 31, 32])

    def test_each_member_of_the_machine_by_itself(self):
        part = (("load", 9), ("far", 0), ("word", 9), ("jump", 0), ("branch", 0), STOP)
        self.check(part, machine_with(short=2), [3], [0, 2, 4, 8, 10, 13, 14])
        self.check(part, machine_with(long=9), [3], [0, 2, 4, 8, 9, 18, 19])
        self.check(part, machine_with(far=9), [3], [0, 2, 11, 15, 16, 19, 20])
        self.check(part, machine_with(load=9), [3], [0, 9, 11, 15, 16, 19, 20])
        self.check(part, machine_with(word=9), [3], [0, 2, 4, 13, 14, 17, 18])
        for member in ("reach", "leap", "span"):
            self.check(part, machine_with(**{member: 0}), [3], [0, 2, 4, 8, 9, 12, 13])
            self.check(part, machine_with(**{member: 999}), [3], [0, 2, 4, 8, 9, 12, 13])

    def test_forms_of_none_some_and_all(self):
        part = (("branch", 3), ("branch", 0), ("plain", 5, 1), ("jump", 0))
        self.check(part, MACHINE, [], [0, 3, 6, 11, 14])
        self.check(part, MACHINE, [0], [0, 1, 4, 9, 12])
        self.check(part, MACHINE, [1], [0, 3, 4, 9, 12])
        self.check(part, MACHINE, [3], [0, 3, 6, 11, 12])
        self.check(part, MACHINE, [0, 1], [0, 1, 2, 7, 10])
        self.check(part, MACHINE, [0, 3], [0, 1, 4, 9, 10])
        self.check(part, MACHINE, [1, 3], [0, 3, 4, 9, 10])
        self.check(part, MACHINE, [0, 1, 3], [0, 1, 2, 7, 8])

    def test_forms_that_do_not_fit_have_addresses_too(self):
        self.check((("branch", 2), ("plain", 99, 0), STOP), machine_with(reach=0), [0], [0, 1, 100, 101])

    def test_an_align_row_makes_the_address_behind_it_a_multiple(self):
        for number in (2, 4, 8, 16):
            for size in range(1, 40):
                end = size
                while end % number != 0:
                    end += 1
                self.check((("plain", size, 0), ("align", number), STOP), MACHINE, [], [0, size, end, end + 1])

    def test_an_align_row_at_the_first_address_has_no_bytes(self):
        for number in (2, 4, 8, 16):
            self.check((("align", number), STOP), MACHINE, [], [0, 0, 1])

    def test_align_rows_one_behind_the_other(self):
        part = (("plain", 1, 0), ("align", 2), ("align", 8), ("align", 4), ("align", 16), STOP)
        self.check(part, MACHINE, [], [0, 1, 2, 8, 8, 16, 17])

    def test_an_align_row_takes_up_what_a_form_saves(self):
        part = (("branch", 2), ("plain", 6, 0), ("align", 8), STOP)
        self.check(part, MACHINE, [], [0, 3, 9, 16, 17])
        self.check(part, MACHINE, [0], [0, 1, 7, 8, 9])

    def test_the_longest_part(self):
        part = (("branch", 0),) * 19 + (("stop", 99),)
        machine = machine_with(long=20)
        self.assertEqual(places(part, machine, [])[-1], 479)
        self.assertEqual(places(part, machine, list(range(19)))[-1], 118)


class TestWrongArguments(unittest.TestCase):
    """For all three functions alike."""

    PART = (("branch", 2), ("branch", 0), ("plain", 1, 1), ("jump", 1), ("load", 1), STOP)

    def check(self, part, machine, forms, answer):
        for call in (places, misfits, served):
            with self.subTest(call.__name__, part=repr(part)[:60], machine=repr(machine)[:60], forms=repr(forms)[:60]):
                self.assertIs(refusal(call, part, machine, forms), answer)

    def test_good_forms(self):
        for forms in ([], [0], [1], [3], [0, 1], [0, 3], [1, 3], [0, 1, 3]):
            self.check(self.PART, MACHINE, forms, None)

    def test_forms_that_are_not_ascending(self):
        for forms in ([1, 0], [3, 0], [3, 1], [0, 3, 1], [1, 0, 3], [3, 1, 0]):
            self.check(self.PART, MACHINE, forms, NoForms)

    def test_forms_with_a_row_twice(self):
        for forms in ([0, 0], [3, 3], [0, 1, 1], [0, 0, 3], [0, 1, 0], [0] * 2000):
            self.check(self.PART, MACHINE, forms, NoForms)

    def test_forms_with_a_row_that_is_no_jump_or_branch(self):
        part = (
            ("branch", 0), ("plain", 1, 1), ("load", 1), ("align", 2), ("far", 0), STOP, ("word", 1), ("jump", 0),
        )
        for row in range(1, 7):
            self.check(part, MACHINE, [row], NoForms)
            self.check(part, MACHINE, [0, row], NoForms)
            self.check(part, MACHINE, [row, 7], NoForms)
        self.check(part, MACHINE, [0, 7], None)

    def test_forms_with_a_row_that_is_not_there(self):
        for row in (-1, -2, -3, -6, 6, 7, 20, 10 ** 20, -10 ** 20):
            self.check(self.PART, MACHINE, [row], NoForms)
            self.check(self.PART, MACHINE, [0, row], NoForms)
            self.check(self.PART, MACHINE, [row, 3], NoForms)
        self.check((("jump", 0),) * 20, MACHINE, [20], NoForms)
        self.check((("jump", 0),) * 20, MACHINE, [-1], NoForms)
        self.check((("jump", 0),) * 20, MACHINE, [19], None)

    def test_forms_with_a_boolean(self):
        for forms in ([False], [True], [False, True], [0, True], [False, 1], [False, 3], [True, 3], [0, True, 3]):
            self.check(self.PART, MACHINE, forms, NoForms)

    def test_forms_with_other_kinds(self):
        for row in [None, "0", "", (0,), [0], {}, {0: 0}, (), []]:
            self.check(self.PART, MACHINE, [row], NoForms)
            self.check(self.PART, MACHINE, [0, row], NoForms)
            self.check(self.PART, MACHINE, [row, 1], NoForms)

    def test_forms_that_are_no_list(self):
        for forms in ((), (0,), (0, 1), {}, {0: 0}, {0: 1, 1: 3}, "", "0", None, True, False, 0, 1):
            self.check(self.PART, MACHINE, forms, NoForms)

    def test_odd_forms(self):
        for forms in odd_values():
            self.check(self.PART, MACHINE, forms, NoForms)

    def test_a_part_without_jumps_has_only_the_empty_forms(self):
        self.check((STOP,), MACHINE, [], None)
        self.check((STOP,), MACHINE, [0], NoForms)

    def test_odd_parts(self):
        for part in odd_values():
            self.check(part, MACHINE, [], NoPart)

    def test_what_is_no_part(self):
        parts = (
            [STOP], (("word", 1),), (("plain", 1, 1),), (("jump", 1),), (["stop", 1],), (STOP,) * 21, ((STOP,),),
            (("align", 2),) + (("jump", 0),) * 7, (("stop", True),), (("load", 1), ("word", 1)),
        )
        for part in parts:
            self.check(part, MACHINE, [], NoPart)

    def test_odd_machines(self):
        for machine in odd_values():
            self.check(self.PART, machine, [], NoMachine)

    def test_what_is_no_machine(self):
        machines = (
            list(MACHINE), MACHINE[:7], MACHINE + (1,), machine_with(short=3), machine_with(short=True),
            machine_with(reach=1000), machine_with(span=-1), machine_with(word=17), machine_with(far=0),
            machine_with(load=10), machine_with(leap=10000), machine_with(long=21), machine_with(reach=False),
            machine_with(leap=True), machine_with(word=True),
        )
        for machine in machines:
            self.check(self.PART, machine, [], NoMachine)

    def test_several_wrong_arguments(self):
        bad_parts = ((), None, [STOP], nested(list, 10))
        bad_machines = ((), None, list(MACHINE), nested(tuple, 10))
        bad_forms = ((), None, [True], [7], [1, 0])
        for part in bad_parts:
            for machine in bad_machines:
                self.check(part, machine, [], NoPart)
                for forms in bad_forms:
                    self.check(part, machine, forms, NoPart)
                    self.check(part, MACHINE, forms, NoPart)
                    self.check(self.PART, machine, forms, NoMachine)
                    self.check(self.PART, MACHINE, forms, NoForms)


if __name__ == "__main__":
    unittest.main()
