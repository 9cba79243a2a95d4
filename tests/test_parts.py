"""[3]: what is a part."""

import itertools
import unittest

from reachrows.books import is_part
from tests.support import changes, is_integer, odd_things, put

STOP = ("stop", 1)

# For each word: the bounds of the members behind it, where no rule about other rows bounds them.
BOUNDS = {
    "plain": ((1, 99), (0, 999)),
    "stop": ((1, 99),),
    "far": ((0, 4),),
    "load": ((0, 65535),),
    "word": ((0, 65535),),
}

ROWS = (
    ("plain", 1, 1), ("stop", 1), ("jump", 1), ("branch", 1), ("far", 1), ("load", 1), ("word", 1), ("align", 2),
)
GOING_ON = (("plain", 1, 1), ("branch", 0), ("load", 1), ("align", 2))
ENDING = (("stop", 1), ("jump", 0), ("far", 1), ("word", 1))


def around(row):
    """A part in which the row may stand, if it is one, as row 1 of 3."""
    return (STOP, row, STOP)


class TestRows(unittest.TestCase):

    def check(self, part, answer):
        with self.subTest(part=repr(part)[:100]):
            self.assertIs(is_part(part), answer)

    def test_one_row_of_each_kind(self):
        for row in ROWS:
            self.check(around(row), True)

    def test_members_at_their_bounds(self):
        for word, bounds in BOUNDS.items():
            lowest = tuple(low for low, _ in bounds)
            for at, (low, high) in enumerate(bounds):
                for number in (low, low + 1, high - 1, high):
                    self.check(around((word,) + put(lowest, at, number)), True)

    def test_members_beyond_their_bounds(self):
        for word, bounds in BOUNDS.items():
            lowest = tuple(low for low, _ in bounds)
            for at, (low, high) in enumerate(bounds):
                for number in (low - 1, high + 1, -high, 10 ** 20, -10 ** 20):
                    self.check(around((word,) + put(lowest, at, number)), False)

    def test_goals_are_rows_of_the_part(self):
        for word in ("jump", "branch"):
            for many in range(2, 21):
                part = ((word, 0),) + (STOP,) * (many - 1)
                for goal in (0, 1, many - 1):
                    self.check(put(part, 0, (word, goal)), True)
                for goal in (-1, -many, many, many + 1, 10 ** 20):
                    self.check(put(part, 0, (word, goal)), False)

    def test_align_takes_four_numbers(self):
        for number in range(-16, 40):
            self.check((("align", number), STOP), number in (2, 4, 8, 16))
        self.check((("align", 32), STOP), False)
        self.check((("align", 64), STOP), False)

    def test_members_of_a_wrong_kind(self):
        for row in ROWS:
            for at in range(1, len(row)):
                for value in odd_things(7):
                    if not is_integer(value):
                        self.check(around(put(row, at, value)), False)

    def test_a_boolean_is_no_number(self):
        for row in ROWS:
            for at in range(1, len(row)):
                self.check(around(put(row, at, True)), False)
                self.check(around(put(row, at, False)), False)

    def test_wrong_lengths_of_rows(self):
        for row in ROWS:
            self.check(around(row + (1,)), False)
            self.check(around(row + (None,)), False)
            self.check(around(row[:-1]), False)
            self.check(around(row[:1]), False)
            self.check(around(()), False)

    def test_unknown_words(self):
        for word in ("", "Plain", "PLAIN", "plain ", " stop", "halt", "island", "long", "jumps", "x" * 1000):
            self.check(around((word, 1)), False)
            self.check(around((word, 1, 1)), False)
            self.check(around((word,)), False)

    def test_words_of_a_wrong_kind(self):
        for word in odd_things(7):
            if word not in ("stop", "plain"):
                self.check(around((word, 1)), False)
                self.check(around((word, 1, 1)), False)
        for row in ROWS:
            self.check(around(put(row, 0, (row[0],))), False)
            self.check(around(put(row, 0, [row[0]])), False)
            self.check(around(put(row, 0, {row[0]: row[0]})), False)

    def test_rows_that_are_no_tuples(self):
        for row in ROWS:
            self.check(around(list(row)), False)
            self.check(around(dict(enumerate(row))), False)
            self.check(around(row[0]), False)
            self.check(around((row,)), False)

    def test_odd_rows_anywhere(self):
        for row in odd_things(8):
            if row != ("stop", 1):
                self.check((row,), False)
                self.check((row, STOP), False)
                self.check(around(row), False)
                self.check((STOP, row), False)


class TestParts(unittest.TestCase):

    def check(self, part, answer):
        with self.subTest(part=repr(part)[:100]):
            self.assertIs(is_part(part), answer)

    def test_none_to_twenty_one_rows(self):
        for many in range(23):
            self.check((STOP,) * many, 1 <= many <= 20)
        self.check((STOP,) * 2000, False)

    def test_by_its_name(self):
        self.assertIs(is_part(thing=(STOP,)), True)
        self.assertIs(is_part(thing=[STOP]), False)

    def test_what_is_no_tuple(self):
        self.check([STOP], False)
        self.check({0: STOP}, False)
        self.check({STOP: STOP}, False)
        self.check("stop", False)
        self.check(STOP, False)
        self.check(((STOP,),), False)
        for thing in odd_things():
            self.check(thing, False)

    def test_row_0_is_no_word(self):
        self.check((("word", 1),), False)
        self.check((("word", 1), STOP), False)
        self.check((("word", 0), ("word", 0), STOP), False)
        self.check((STOP, ("word", 1)), True)

    def test_a_row_that_goes_on_is_not_the_last_one(self):
        for row in GOING_ON:
            self.check((STOP, row), False)
            self.check((STOP, row, STOP), True)
            self.check((STOP, STOP, row), False)
            self.check((row,), False)

    def test_any_other_row_may_be_the_last_one(self):
        for row in ENDING:
            self.check((STOP, row), True)
        for row in ENDING[:3]:
            self.check((row,), True)

    def test_a_row_that_goes_on_is_not_directly_ahead_of_a_word(self):
        for row in GOING_ON:
            self.check((STOP, row, ("word", 1)), False)
            self.check((STOP, row, ("word", 1), STOP), False)
            self.check((row, ("word", 1), STOP), False)
            self.check((STOP, row, STOP, ("word", 1)), True)

    def test_any_other_row_may_be_directly_ahead_of_a_word(self):
        for row in ENDING:
            self.check((STOP, row, ("word", 1)), True)
            self.check((STOP, row, ("word", 1), STOP), True)

    def test_rows_that_go_on_may_be_directly_behind_words(self):
        for row in GOING_ON:
            self.check((STOP, ("word", 1), row, STOP), True)
            self.check((STOP, ("word", 1), row, row, STOP), True)

    def test_no_goal_is_a_word(self):
        for word in ("jump", "branch"):
            part = (STOP, (word, 0), STOP, ("word", 7), STOP, ("word", 8))
            for goal in range(6):
                self.check(put(part, 1, (word, goal)), goal not in (3, 5))
            part = (STOP, ("word", 7), (word, 0), STOP)
            for goal in range(4):
                self.check(put(part, 2, (word, goal)), goal != 1)

    def test_a_goal_is_a_row_of_any_other_kind(self):
        for word in ("jump", "branch"):
            for row in (("plain", 1, 1), STOP, ("jump", 0), ("branch", 0), ("far", 1), ("load", 1), ("align", 2)):
                self.check(((word, 1), row, STOP), True)

    def test_with_align_at_most_six_jumps_and_branches(self):
        for align in (("align", 2), ("align", 4), ("align", 8), ("align", 16)):
            for jumps in range(9):
                for branches in range(9):
                    rows = (("jump", 0),) * jumps + (("branch", 0),) * branches
                    self.check((align,) + rows + (STOP,), jumps + branches <= 6)
                    self.check(rows + (STOP, align, STOP), jumps + branches <= 6)

    def test_without_align_as_many_as_there_are_rows(self):
        for many in range(1, 20):
            self.check((("jump", 0),) * many, True)
            self.check((("branch", 0),) * many + (STOP,), True)
            self.check((("branch", 0),) * (many - 1) + (("jump", 0),), True)
        self.check((("jump", 0),) * 20, True)
        self.check((("branch", 0),) * 19 + (("jump", 1),), True)

    def test_several_aligns_count_as_none_of_the_six(self):
        self.check((("branch", 0),) * 6 + (("align", 4),) * 12 + (STOP,), True)
        self.check((("branch", 0),) * 7 + (("align", 4),) * 12 + (STOP,), False)

    def test_far_rows_need_no_book(self):
        for part in range(5):
            self.check((("far", part),), True)

    def test_the_thing_is_not_changed(self):
        for thing in odd_things() + [(STOP,), [STOP], [list(STOP)], (list(STOP),)]:
            self.assertFalse(changes(is_part, thing))


def is_part_told_again(rows):
    """Whether rows of the sweep, each one a good row by itself, are a part, rule by rule as the document says it."""
    words = [row[0] for row in rows]
    for at, row in enumerate(rows):
        goes_on = words[at] == "plain" or words[at] == "branch" or words[at] == "load" or words[at] == "align"
        if goes_on and at == len(rows) - 1:
            return False
        if goes_on and words[at + 1] == "word":
            return False
        if words[at] == "jump" or words[at] == "branch":
            if row[1] >= len(rows) or words[row[1]] == "word":
                return False
    return words[0] != "word"


class TestManyParts(unittest.TestCase):

    def test_all_parts_of_few_rows(self):
        rows = (
            ("plain", 1, 0), STOP, ("jump", 0), ("jump", 1), ("branch", 0), ("branch", 2), ("far", 3), ("load", 1),
            ("word", 1), ("align", 2),
        )
        for many in (1, 2, 3):
            for part in itertools.product(rows, repeat=many):
                self.assertIs(is_part(part), is_part_told_again(part), part)


if __name__ == "__main__":
    unittest.main()
