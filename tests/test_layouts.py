"""[5]: places, misfits and served of many parts, against the words of the document told byte by byte."""

import itertools
import unittest

from reachrows.books import is_part
from reachrows.places import misfits, places, served
from tests.support import Numbers


def bytes_of(part, machine, forms):
    """A list with the number of the row of each byte, and where each row begins."""
    short, _, long, far, _, load, _, word = machine
    sizes = {"far": far, "load": load, "word": word}
    line, begins = [], []
    for number, row in enumerate(part):
        begins.append(len(line))
        if row[0] == "align":
            while len(line) % row[1] != 0:
                line.append(number)
        elif row[0] in ("jump", "branch"):
            line.extend([number] * (short if number in forms else long))
        else:
            line.extend([number] * sizes.get(row[0], row[1]))
    return line, begins


def between(begins, row, other):
    """The distance of two rows."""
    return max(begins[row], begins[other]) - min(begins[row], begins[other])


def word_for(part, begins, span, load):
    """The word that serves the load, or None, looked for from the load outwards."""
    for far in range(span + 1):
        for number, row in enumerate(part):
            if row[0] == "word" and row[1] == part[load][1] and between(begins, load, number) == far:
                return number
    return None


def some_part(numbers):
    """Some tuple of rows, most often a part."""
    kinds = [("plain", 1, 0), ("plain", 3, 0), ("plain", 9, 0), ("stop", 5), ("far", 0)] + [("load", 1)] * 3
    kinds += [("load", 2), ("word", 2), ("word", 1), ("word", 1), ("align", 4), ("align", 16)]
    many = 3 + numbers.below(6)
    kinds += [(word, numbers.below(many)) for word in ("jump", "branch") for _ in range(3)]
    return tuple(numbers.one_of(kinds) for _ in range(many - 1)) + (("stop", 1),)


def some_machine(numbers):
    """Some machine whose reach and span are of the size of the parts."""
    short = 1 + numbers.below(4)
    return (
        short, numbers.below(30), short + 1 + numbers.below(5), 1 + numbers.below(5), 60, 1 + numbers.below(5),
        numbers.below(30), 1 + numbers.below(8),
    )


def all_forms(part):
    """All forms of the part."""
    jumps = [number for number, row in enumerate(part) if row[0] in ("jump", "branch")]
    return [list(forms) for many in range(len(jumps) + 1) for forms in itertools.combinations(jumps, many)]


class TestLayouts(unittest.TestCase):

    def check(self, part, machine, forms):
        line, begins = bytes_of(part, machine, forms)
        told = (part, machine, forms)
        self.assertEqual(places(part, machine, forms), begins + [len(line)], told)
        unfit = [row for row in forms if between(begins, row, part[row][1]) > machine[1]]
        self.assertEqual(misfits(part, machine, forms), unfit, told)
        loads = [number for number, row in enumerate(part) if row[0] == "load"]
        words = {load: word_for(part, begins, machine[6], load) for load in loads}
        self.assertEqual(served(part, machine, forms), words, told)

    def test_many_parts(self):
        numbers = Numbers(5)
        parts = [part for part in [some_part(numbers) for _ in range(3000)] if is_part(part)]
        self.assertGreater(len(parts), 500)
        for part in parts:
            machine = some_machine(numbers)
            for forms in all_forms(part)[:16]:
                self.check(part, machine, forms)


if __name__ == "__main__":
    unittest.main()
