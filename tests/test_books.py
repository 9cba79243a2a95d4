"""[3]: what is a book."""

import unittest

from reachrows.books import is_book
from tests.support import changes, odd_things, put

STOP = (("stop", 1),)


class TestBooks(unittest.TestCase):

    def check(self, book, answer):
        with self.subTest(book=repr(book)[:100]):
            self.assertIs(is_book(book), answer)

    def test_none_to_six_parts(self):
        for many in range(8):
            self.check((STOP,) * many, 1 <= many <= 5)
        self.check((STOP,) * 2000, False)

    def test_by_its_name(self):
        self.assertIs(is_book(thing=(STOP,)), True)
        self.assertIs(is_book(thing=[STOP]), False)

    def test_far_rows_go_to_parts_that_are_there(self):
        for many in range(1, 6):
            for at in range(many):
                for goal in range(-1, 6):
                    book = put((STOP,) * many, at, (("far", goal),))
                    self.check(book, 0 <= goal < many)
                    book = put((STOP,) * many, at, (("stop", 1), ("far", 0), ("far", goal), ("word", 1)))
                    self.check(book, 0 <= goal < many)

    def test_each_part_is_one(self):
        bad = (
            (), (("word", 1),), (("plain", 1, 1),), (("jump", 1),), (("stop", 0),), (("stop", True),),
            (("stop", 1),) * 21, [("stop", 1)], (["stop", 1],), ("stop", 1), (("load", 1), ("word", 1)),
            (("jump", 1), ("word", 1)), (("align", 2),) + (("branch", 0),) * 7 + (("stop", 1),),
        )
        for many in (1, 2, 5):
            for at in range(many):
                for part in bad:
                    self.check(put((STOP,) * many, at, part), False)
                for part in odd_things(8):
                    self.check(put((STOP,) * many, at, part), False)

    def test_rules_of_rows_end_with_their_part(self):
        self.check(((("stop", 1), ("word", 1)), (("load", 2), ("stop", 1))), True)
        self.check(((("stop", 1),), (("word", 1), ("stop", 1))), False)
        self.check(((("plain", 1, 1),), (("stop", 1),)), False)
        self.check(((("jump", 1),), (("stop", 1), ("stop", 1))), False)
        six = (("align", 2),) + (("branch", 0),) * 6 + (("stop", 1),)
        self.check((six,) * 5, True)

    def test_what_is_no_tuple(self):
        self.check([STOP], False)
        self.check({0: STOP}, False)
        self.check(STOP, False)
        self.check(STOP[0], False)
        self.check(((STOP,),), False)
        for thing in odd_things():
            self.check(thing, False)

    def test_the_thing_is_not_changed(self):
        for thing in odd_things() + [(STOP,), [STOP], ([("stop", 1)],)]:
            self.assertFalse(changes(is_book, thing))


if __name__ == "__main__":
    unittest.main()
