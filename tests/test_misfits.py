"""[5]: misfits."""

import unittest

from reachrows.places import misfits
from tests.support import MACHINE, machine_with

STOP = ("stop", 1)


class TestMisfits(unittest.TestCase):

    def check(self, part, machine, forms, answer):
        with self.subTest(part=part, machine=machine, forms=forms):
            self.assertEqual(misfits(part, machine, forms), answer)

    def test_the_answer_is_a_list_of_integers(self):
        answer = misfits((("branch", 2), ("plain", 9, 1), STOP), MACHINE, [0])
        self.assertIs(type(answer), list)
        self.assertEqual([type(row) for row in answer], [int])
        self.assertEqual(misfits((STOP,), MACHINE, []), [])

    def test_a_goal_ahead_at_just_the_reach_and_one_more(self):
        for word in ("jump", "branch"):
            for size in (1, 8, 50):
                part = ((word, 2), ("plain", size, 0), STOP)
                self.check(part, machine_with(reach=size + 2), [0], [])
                self.check(part, machine_with(reach=size + 1), [0], [])
                self.check(part, machine_with(reach=size), [0], [0])
                self.check(part, machine_with(reach=0), [0], [0])

    def test_a_goal_behind_at_just_the_reach_and_one_more(self):
        for word in ("jump", "branch"):
            for size in (1, 8, 50):
                part = (("plain", size, 0), (word, 0), STOP)
                self.check(part, machine_with(reach=size + 1), [1], [])
                self.check(part, machine_with(reach=size), [1], [])
                self.check(part, machine_with(reach=size - 1), [1], [1])
                self.check(part, machine_with(reach=0), [1], [1])

    def test_the_own_row_as_the_goal_always_fits(self):
        for word in ("jump", "branch"):
            for short in range(1, 10):
                part = (STOP, (word, 1), STOP)
                self.check(part, machine_with(short=short, long=10, reach=0), [1], [])

    def test_the_row_behind_as_the_goal(self):
        for short in range(1, 10):
            part = (("branch", 1), STOP)
            self.check(part, machine_with(short=short, long=10, reach=short), [0], [])
            self.check(part, machine_with(short=short, long=10, reach=short - 1), [0], [0])

    def test_distances_of_hundreds_of_bytes(self):
        part = (("branch", 11),) + (("plain", 99, 0),) * 10 + (STOP, ("jump", 0))
        self.check(part, machine_with(reach=999), [0, 12], [])
        self.check(part, machine_with(reach=992), [0, 12], [])
        self.check(part, machine_with(reach=991), [0, 12], [12])
        self.check(part, machine_with(reach=990), [0, 12], [0, 12])

    def test_long_rows_always_fit(self):
        part = (("branch", 2), ("plain", 99, 1), ("branch", 0), ("jump", 0))
        machine = machine_with(reach=0)
        self.check(part, machine, [], [])
        self.check(part, machine, [0], [0])
        self.check(part, machine, [2], [2])
        self.check(part, machine, [3], [3])
        self.check(part, machine, [0, 3], [0, 3])
        self.check(part, machine, [0, 2, 3], [0, 2, 3])

    def test_only_those_that_do_not_fit(self):
        part = (("branch", 4), ("branch", 3), ("plain", 5, 1), ("plain", 5, 1), ("branch", 3), ("jump", 1))
        self.check(part, machine_with(reach=12), [0, 1, 4, 5], [])
        self.check(part, machine_with(reach=11), [0, 1, 4, 5], [0, 5])
        self.check(part, machine_with(reach=6), [0, 1, 4, 5], [0, 5])
        self.check(part, machine_with(reach=5), [0, 1, 4, 5], [0, 1, 5])
        self.check(part, machine_with(reach=4), [0, 1, 4, 5], [0, 1, 4, 5])

    def test_a_long_row_between_makes_the_distance_greater(self):
        part = (("branch", 3), ("branch", 0), ("plain", 8, 0), STOP)
        machine = machine_with(reach=10)
        self.check(part, machine, [0, 1], [])
        self.check(part, machine, [0], [0])

    def test_the_own_form_counts_for_a_goal_ahead_but_not_for_one_behind(self):
        part = (("plain", 9, 0), ("jump", 0))
        self.check(part, machine_with(short=9, long=20, reach=9), [1], [])
        part = (("branch", 2), ("plain", 9, 0), STOP)
        self.check(part, machine_with(short=9, long=20, reach=17), [0], [0])
        self.check(part, machine_with(short=9, long=20, reach=18), [0], [])

    def test_the_goals_own_size_counts_for_one_behind_but_not_for_one_ahead(self):
        self.check((("branch", 1), ("plain", 99, 0), STOP), machine_with(reach=1), [0], [])
        self.check((("plain", 99, 0), ("jump", 0)), machine_with(reach=98), [1], [1])
        self.check((("plain", 99, 0), ("jump", 0)), machine_with(reach=99), [1], [])

    def test_loads_words_and_far_rows_between(self):
        part = (("branch", 5), ("load", 7), ("far", 0), ("word", 7), ("word", 8), STOP)
        self.check(part, machine_with(reach=13), [0], [])
        self.check(part, machine_with(reach=12), [0], [0])

    def test_an_align_row_between(self):
        part = (("branch", 3), ("plain", 1, 0), ("align", 16), STOP)
        self.check(part, machine_with(reach=16), [0], [])
        self.check(part, machine_with(reach=15), [0], [0])

    def test_an_align_row_as_the_goal_is_where_it_begins(self):
        part = (("branch", 2), ("plain", 8, 0), ("align", 16), STOP)
        self.check(part, machine_with(reach=9), [0], [])
        self.check(part, machine_with(reach=8), [0], [0])

    def test_a_long_row_may_bring_a_row_and_its_goal_nearer(self):
        part = (("branch", 4), ("branch", 4), ("plain", 9, 1), ("align", 16), STOP)
        self.check(part, machine_with(reach=13), [0, 1], [0, 1])
        self.check(part, machine_with(reach=13), [1], [])
        self.check(part, machine_with(reach=13), [0], [0])

    def test_the_machines_other_members_mean_nothing(self):
        part = (("branch", 2), ("plain", 9, 1), STOP)
        for member in ("leap", "span"):
            for number in (0, 999):
                self.check(part, machine_with(reach=10, **{member: number}), [0], [])
                self.check(part, machine_with(reach=9, **{member: number}), [0], [0])


if __name__ == "__main__":
    unittest.main()
