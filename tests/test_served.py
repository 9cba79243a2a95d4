"""[5]: served."""

import unittest

from reachrows.places import served
from tests.support import MACHINE, machine_with

STOP = ("stop", 1)


class TestServed(unittest.TestCase):

    def check(self, part, machine, forms, answer):
        with self.subTest(part=part, machine=machine, forms=forms):
            self.assertEqual(served(part, machine, forms), answer)

    def test_the_answer_is_a_dict_of_integers_and_none(self):
        answer = served((("load", 7), ("load", 8), STOP, ("word", 7)), MACHINE, [])
        self.assertIs(type(answer), dict)
        self.assertEqual(answer, {0: 3, 1: None})
        self.assertEqual({type(load) for load in answer}, {int})
        self.assertIs(type(answer[0]), int)

    def test_a_part_without_loads(self):
        self.check((STOP,), MACHINE, [], {})
        self.check((STOP, ("word", 7)), MACHINE, [], {})

    def test_a_word_ahead_at_just_the_span_and_beyond_it(self):
        for size in (1, 18, 50):
            part = (("load", 7), ("stop", size), ("word", 7))
            self.check(part, machine_with(span=size + 3), [], {0: 2})
            self.check(part, machine_with(span=size + 2), [], {0: 2})
            self.check(part, machine_with(span=size + 1), [], {0: None})
            self.check(part, machine_with(span=0), [], {0: None})
            self.check(part, machine_with(span=999), [], {0: 2})

    def test_a_word_behind_at_just_the_span_and_beyond_it(self):
        for size in (1, 18, 50):
            part = (STOP, ("word", 7), ("plain", size, 0), ("load", 7), STOP)
            self.check(part, machine_with(span=size + 5), [], {3: 1})
            self.check(part, machine_with(span=size + 4), [], {3: 1})
            self.check(part, machine_with(span=size + 3), [], {3: None})
            self.check(part, machine_with(span=0), [], {3: None})

    def test_distances_are_those_of_the_first_bytes(self):
        part = (("load", 7), STOP, ("word", 7))
        self.check(part, machine_with(load=9, word=16, span=10), [], {0: 2})
        self.check(part, machine_with(load=9, word=16, span=9), [], {0: None})
        part = (STOP, ("word", 7), ("load", 7), STOP)
        self.check(part, machine_with(load=9, word=16, span=16), [], {2: 1})
        self.check(part, machine_with(load=9, word=16, span=15), [], {2: None})

    def test_only_words_of_the_loads_value(self):
        part = (("load", 7), STOP, ("word", 6), ("word", 8), ("word", 7), ("word", 65535), ("word", 0))
        self.check(part, MACHINE, [], {0: 4})
        self.check((("load", 7), STOP, ("word", 6), ("word", 8)), MACHINE, [], {0: None})
        self.check((("load", 0), STOP, ("word", 1)), MACHINE, [], {0: None})
        self.check((("load", 0), STOP, ("word", 0)), MACHINE, [], {0: 2})
        self.check((("load", 65535), STOP, ("word", 65535)), MACHINE, [], {0: 2})

    def test_no_other_row_with_the_value_is_a_word(self):
        self.check((("load", 7), ("plain", 7, 7), ("load", 7), ("stop", 7)), MACHINE, [], {0: None, 2: None})
        self.check((("load", 2), ("jump", 2), ("far", 2), ("align", 2), ("stop", 2)), MACHINE, [], {0: None})

    def test_none_where_there_is_no_word(self):
        self.check((("load", 7), STOP), MACHINE, [], {0: None})
        self.check((("load", 7), ("load", 8), STOP), machine_with(span=999), [], {0: None, 1: None})

    def test_the_nearest_of_several_words(self):
        part = (("load", 7), STOP, ("word", 7), ("word", 7), ("word", 7))
        self.check(part, MACHINE, [], {0: 2})
        part = (STOP, ("word", 7), ("word", 7), ("word", 7), ("load", 7), STOP)
        self.check(part, MACHINE, [], {4: 3})

    def test_the_nearest_of_words_on_both_sides(self):
        for size in range(1, 8):
            part = (STOP, ("word", 7), ("load", 7), ("stop", size), ("word", 7))
            # The first word is 4 bytes away, the second one the load's 2 bytes and those of the "stop".
            self.check(part, MACHINE, [], {2: 4 if size < 2 else 1})

    def test_of_two_at_one_distance_the_first(self):
        part = (STOP, ("word", 7), ("load", 7), ("stop", 2), ("word", 7))
        self.check(part, MACHINE, [], {2: 1})
        self.check(part, machine_with(span=4), [], {2: 1})
        self.check(part, machine_with(span=3), [], {2: None})
        part = (STOP, ("word", 7), ("word", 7), ("load", 7), ("stop", 2), ("word", 7), ("word", 7))
        self.check(part, MACHINE, [], {3: 2})

    def test_the_nearest_within_the_span_though_others_are_beyond_it(self):
        part = (STOP, ("word", 7), ("plain", 9, 0), ("load", 7), STOP, ("word", 7))
        self.check(part, machine_with(span=3), [], {3: 5})
        self.check(part, machine_with(span=2), [], {3: None})
        part = (STOP, ("word", 7), ("load", 7), ("stop", 9), ("word", 7))
        self.check(part, machine_with(span=4), [], {2: 1})

    def test_one_word_serves_several_loads(self):
        part = (("load", 7), ("load", 7), STOP, ("word", 7), ("load", 7), STOP)
        self.check(part, MACHINE, [], {0: 3, 1: 3, 4: 3})
        self.check(part, machine_with(span=4), [], {0: None, 1: 3, 4: 3})
        self.check(part, machine_with(span=3), [], {0: None, 1: 3, 4: None})
        self.check(part, machine_with(span=2), [], {0: None, 1: None, 4: None})

    def test_each_load_has_its_own_word(self):
        part = (("load", 1), ("load", 2), ("load", 3), STOP, ("word", 3), ("word", 1), ("word", 4))
        self.check(part, MACHINE, [], {0: 5, 1: None, 2: 4})

    def test_forms_between_count(self):
        part = (("load", 7), ("branch", 0), ("jump", 0), ("word", 7))
        self.check(part, machine_with(span=8), [], {0: 3})
        self.check(part, machine_with(span=7), [], {0: None})
        self.check(part, machine_with(span=6), [1], {0: 3})
        self.check(part, machine_with(span=5), [1], {0: None})
        self.check(part, machine_with(span=6), [2], {0: 3})
        self.check(part, machine_with(span=4), [1, 2], {0: 3})
        self.check(part, machine_with(span=3), [1, 2], {0: None})

    def test_forms_may_make_another_word_the_nearest(self):
        part = (STOP, ("word", 7), ("load", 7), ("jump", 0), ("word", 7))
        self.check(part, machine_with(short=1, long=3), [3], {2: 4})
        self.check(part, machine_with(short=1, long=3), [], {2: 1})

    def test_forms_that_do_not_fit_count_too(self):
        part = (("load", 7), ("branch", 3), ("plain", 99, 0), STOP, ("word", 7))
        self.check(part, machine_with(reach=0, span=103), [1], {0: 4})
        self.check(part, machine_with(reach=0, span=102), [1], {0: None})

    def test_align_rows_between_count(self):
        part = (STOP, ("word", 7), ("plain", 1, 0), ("align", 16), ("load", 7), STOP)
        self.check(part, machine_with(span=15), [], {4: 1})
        self.check(part, machine_with(span=14), [], {4: None})

    def test_reach_means_nothing(self):
        part = (("load", 7), ("stop", 18), ("word", 7))
        for reach in (0, 999):
            self.check(part, machine_with(reach=reach), [], {0: 2})
            self.check(part, machine_with(reach=reach, span=19), [], {0: None})


if __name__ == "__main__":
    unittest.main()
