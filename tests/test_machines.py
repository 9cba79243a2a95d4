"""[2]: what is a machine."""

import unittest

from reachrows.books import is_machine
from tests.support import MACHINE, MEMBERS, changes, is_integer, odd_things, put

# The lowest and the highest number of each member, where no other member bounds it.
BOUNDS = ((1, 9), (0, 999), (2, 20), (1, 20), (0, 9999), (1, 9), (0, 999), (1, 16))

# Short is the least and long the greatest, so that each of the two can be at both of its bounds.
WIDE = (1, 9, 20, 2, 60, 2, 20, 4)


class TestMachines(unittest.TestCase):

    def test_an_ordinary_machine(self):
        self.assertIs(is_machine(MACHINE), True)
        self.assertIs(is_machine(thing=MACHINE), True)

    def test_each_member_just_within_its_bounds(self):
        for at, (low, high) in enumerate(BOUNDS):
            for number in (low, low + 1, high - 1, high):
                with self.subTest(MEMBERS[at], number=number):
                    self.assertIs(is_machine(put(WIDE, at, number)), True)

    def test_each_member_just_without_its_bounds(self):
        for at, (low, high) in enumerate(BOUNDS):
            for number in (low - 1, high + 1, -low - 1, -high, 10 ** 20, -10 ** 20):
                with self.subTest(MEMBERS[at], number=number):
                    self.assertIs(is_machine(put(WIDE, at, number)), False)

    def test_all_members_at_once_at_their_bounds(self):
        self.assertIs(is_machine((1, 0, 2, 1, 0, 1, 0, 1)), True)
        self.assertIs(is_machine((9, 999, 20, 20, 9999, 9, 999, 16)), True)

    def test_long_is_more_than_short(self):
        for short in range(1, 10):
            for long in range(0, 22):
                with self.subTest(short=short, long=long):
                    machine = (short, 9, long, 2, 60, 2, 20, 4)
                    self.assertIs(is_machine(machine), short + 1 <= long <= 20)

    def test_a_member_of_a_wrong_kind(self):
        for at in range(8):
            for value in odd_things(9):
                if not is_integer(value):
                    with self.subTest(MEMBERS[at], value=repr(value)[:60]):
                        self.assertIs(is_machine(put(WIDE, at, value)), False)

    def test_a_boolean_is_no_member_also_where_the_number_that_it_equals_would_be_one(self):
        for at in range(8):
            for value in (True, False):
                with self.subTest(MEMBERS[at], value=value):
                    self.assertIs(is_machine(put((1, 1, 2, 1, 1, 1, 1, 1), at, value)), False)

    def test_wrong_lengths(self):
        for many in range(8):
            with self.subTest(many=many):
                self.assertIs(is_machine(MACHINE[:many]), False)
        self.assertIs(is_machine(MACHINE + (1,)), False)
        self.assertIs(is_machine(MACHINE + (None,)), False)
        self.assertIs(is_machine(MACHINE + MACHINE), False)

    def test_what_is_no_tuple(self):
        self.assertIs(is_machine(list(MACHINE)), False)
        self.assertIs(is_machine({size: size for size in MACHINE}), False)
        self.assertIs(is_machine(dict(enumerate(MACHINE))), False)
        self.assertIs(is_machine((MACHINE,)), False)
        self.assertIs(is_machine("19326024"), False)
        for thing in odd_things():
            with self.subTest(thing=repr(thing)[:60]):
                self.assertIs(is_machine(thing), False)

    def test_the_thing_is_not_changed(self):
        for thing in odd_things() + [MACHINE, list(MACHINE)]:
            self.assertFalse(changes(is_machine, thing))


if __name__ == "__main__":
    unittest.main()
