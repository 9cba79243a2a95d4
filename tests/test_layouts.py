"""[5]: places, misfits and served of many parts, against the words of the document told byte by byte."""

import unittest

from reachrows.books import is_part
from reachrows.places import misfits, places, served
from tests.oracles import all_forms, bytes_of, some_machine, unfit_told, word_for
from tests.support import Numbers


def some_part(numbers):
    """Some tuple of rows, most often a part."""
    kinds = [("plain", 1, 0), ("plain", 3, 0), ("plain", 9, 0), ("stop", 5), ("far", 0)] + [("load", 1)] * 3
    kinds += [("load", 2), ("word", 2), ("word", 1), ("word", 1), ("align", 4), ("align", 16)]
    many = 3 + numbers.below(6)
    kinds += [(word, numbers.below(many)) for word in ("jump", "branch") for _ in range(3)]
    return tuple(numbers.one_of(kinds) for _ in range(many - 1)) + (("stop", 1),)


class TestLayouts(unittest.TestCase):

    def check(self, part, machine, forms):
        line, begins = bytes_of(part, machine, forms)
        told = (part, machine, forms)
        self.assertEqual(places(part, machine, forms), begins + [len(line)], told)
        self.assertEqual(misfits(part, machine, forms), unfit_told(part, machine, forms), told)
        loads = [number for number, row in enumerate(part) if row[0] == "load"]
        words = {load: word_for(part, begins, machine[6], load) for load in loads}
        self.assertEqual(served(part, machine, forms), words, told)

    def test_many_parts(self):
        numbers = Numbers(5)
        parts = [part for part in [some_part(numbers) for _ in range(3000)] if is_part(part)]
        self.assertGreater(len(parts), 500)
        for part in parts:
            machine = some_machine(numbers)
            for forms in all_forms(part):
                self.check(part, machine, forms)


if __name__ == "__main__":
    unittest.main()
