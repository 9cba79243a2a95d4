"""[24]: what holds of parts, words and shelves."""

import unittest

from reachrows.aligned import helps, laid, shows_help
from reachrows.books import is_part
from reachrows.growing import grown
from reachrows.places import misfits, places, served
from reachrows.words import with_words
from tests.oracles import GOING_ON, all_forms, between, jumps_of, some_machine, some_rows
from tests.support import Numbers
from tests.test_growing import EVEN_KINDS
from tests.test_least import ALIGNED_KINDS, aligned_parts
from tests.test_shelf_histories import some_change, some_shelf

ALL_KINDS = ("plain", "branch", "branch", "jump", "load", "word", "word", "stop", "far", "align")


def even_parts(seed, many):
    """Even parts of few jumps, and machines for them."""
    numbers = Numbers(seed)
    for _ in range(many):
        part = some_rows(numbers, 3 + numbers.below(7), EVEN_KINDS)
        if len(jumps_of(part)) <= 5:
            yield part, some_machine(numbers, reach=20)


def may_help(part, a, b):
    """Whether an "align" stands where the document asks for one."""
    first, last = sorted([b, part[b][1]])
    return any(row[0] == "align" and a < at and first <= at < last for at, row in enumerate(part))


class TestHelps(unittest.TestCase):

    def test_no_row_of_an_even_part_helps(self):
        for part, machine in even_parts(240, 300):
            self.assertEqual(helps(part, machine), [], (part, machine))
            for rival in all_forms(part):
                for a in jumps_of(part):
                    for b in jumps_of(part):
                        self.assertIs(shows_help(part, machine, a, b, rival), False)

    def test_a_row_helps_only_with_an_align_behind_it_and_between(self):
        pairs = 0
        for part, machine in aligned_parts(241, 4000):
            for a, b in helps(part, machine):
                pairs += 1
                self.assertTrue(may_help(part, a, b), (part, machine, a, b))
        self.assertGreater(pairs, 30)

    def test_a_goal_that_is_an_align_itself_may_be_that_one(self):
        # The goal of row 3 is the "align" itself, which has fewer bytes if row 0 is long.
        part = (("branch", 3), ("align", 16), ("plain", 2, 0), ("branch", 1), ("stop", 1))
        machine = (1, 12, 6, 2, 60, 2, 20, 4)
        self.assertEqual(misfits(part, machine, [0, 3]), [0, 3])
        self.assertEqual(misfits(part, machine, [3]), [])
        self.assertEqual(helps(part, machine), [(0, 3)])
        self.assertTrue(may_help(part, 0, 3))

    def test_neither_an_align_ahead_nor_one_behind_nor_the_last_of_the_two_will_do(self):
        for part in (
            (("align", 16), ("branch", 3), ("branch", 3), ("stop", 5)),
            (("branch", 2), ("branch", 2), ("align", 16), ("stop", 5)),
            (("branch", 3), ("align", 16), ("branch", 3), ("stop", 5)),
        ):
            for reach in range(40):
                for short in range(1, 10):
                    machine = (short, reach, short + 7, 2, 60, 2, 20, 4)
                    self.assertEqual(helps(part, machine), [], (part, machine))


class TestLongRows(unittest.TestCase):

    def test_with_more_long_rows_no_rows_come_nearer(self):
        farther = 0
        for part, machine in even_parts(242, 120):
            for forms in all_forms(part):
                addresses = places(part, machine, forms)
                for row in forms:
                    others = places(part, machine, [other for other in forms if other != row])
                    for one in range(len(part) + 1):
                        for other in range(one):
                            here, there = between(addresses, one, other), between(others, one, other)
                            self.assertLessEqual(here, there, (part, machine, forms, row))
                            farther += here < there
        self.assertGreater(farther, 1000)


class TestSizes(unittest.TestCase):

    def check(self, part, machine, forms):
        short, _, long, far, _, load, _, word = machine
        addresses = places(part, machine, forms)
        size = 0
        for at, row in enumerate(part):
            sizes = {
                "far": far, "load": load, "word": word, "jump": short, "branch": short,
                "align": addresses[at + 1] - addresses[at],
            }
            size += sizes.get(row[0], row[1])
        size += (long - short) * (len(jumps_of(part)) - len(forms))
        self.assertEqual(addresses[-1], size, (part, machine, forms))

    def test_a_parts_size_is_the_sum_of_its_rows(self):
        numbers = Numbers(243)
        for _ in range(400):
            part = some_rows(numbers, 1 + numbers.below(9), ALL_KINDS)
            machine = some_machine(numbers)
            if is_part(part):
                for forms in all_forms(part):
                    self.check(part, machine, forms)

    def test_also_as_laid(self):
        numbers = Numbers(244)
        for _ in range(300):
            part = some_rows(numbers, 1 + numbers.below(20), ALL_KINDS if numbers.below(2) else ALIGNED_KINDS)
            if is_part(part):
                machine = some_machine(numbers)
                forms, addresses = laid(part, machine)
                self.assertEqual(addresses, places(part, machine, forms))
                self.check(part, machine, forms)


class TestWordsPutIn(unittest.TestCase):

    def cases(self, seed):
        numbers = Numbers(seed)
        for _ in range(600):
            part = some_rows(numbers, 2 + numbers.below(12), EVEN_KINDS + ("load", "load"))
            spot, value = 1 + numbers.below(len(part)), 1 + numbers.below(2)
            yield part, some_machine(numbers, reach=30), spot, value

    def test_it_serves_no_load_but_of_its_own_value(self):
        serving = 0
        for part, machine, spot, value in self.cases(245):
            rows, table = with_words(part, [(spot, value)])
            at = table[spot - 1] + (2 if part[spot - 1][0] in GOING_ON else 1)
            self.assertEqual(rows[at], ("word", value))
            words = served(rows, machine, grown(rows, machine)[0])
            for load, word in words.items():
                if word == at:
                    serving += 1
                    self.assertEqual(rows[load], ("load", value), (part, machine, spot, value))
        self.assertGreater(serving, 50)

    def test_it_makes_no_long_row_short(self):
        became = 0
        for part, machine, spot, value in self.cases(246):
            rows, table = with_words(part, [(spot, value)])
            chain, chain_with = grown(part, machine)[1], grown(rows, machine)[1]
            self.assertLessEqual({table[row] for row in chain}, set(chain_with), (part, machine, spot, value))
            became += len(chain) > 0
        self.assertGreater(became, 50)


class TestShelves(unittest.TestCase):

    def test_as_long_as_only_reserved_edits_and_undos_come_no_part_moves(self):
        numbers = Numbers(247)
        edited = 0
        for _ in range(200):
            shelf, _, edits = some_shelf(numbers)
            firsts = shelf.firsts()
            for _ in range(12):
                if edits and numbers.below(3) > 0:
                    shelf.edit(*numbers.one_of(edits))
                    edited += 1
                elif len(shelf) > 0:
                    shelf.undo()
                self.assertEqual((shelf.firsts(), shelf.moves(0)), (firsts, []))
        self.assertGreater(edited, 500)

    def test_whoever_applies_the_moves_has_the_present_firsts(self):
        numbers = Numbers(248)
        applied = 0
        for _ in range(200):
            shelf, _, edits = some_shelf(numbers)
            holders = []
            for _ in range(10):
                change = some_change(numbers, edits, shelf.as_book())
                if change:
                    shelf.edit(*change)
                elif len(shelf) > 0:
                    shelf.undo()
                for holder in holders:
                    # Each holder asks now and then, for all that was told since.
                    if numbers.below(2) == 0:
                        moves = shelf.moves(holder["next"])
                        for part, before, after in moves:
                            self.assertEqual(holder["firsts"][part], before)
                            holder["firsts"][part] = after
                        holder["next"] += len(moves)
                        applied += len(moves)
                        self.assertEqual(holder["firsts"], shelf.firsts())
                holders.append({"firsts": shelf.firsts(), "next": len(shelf.moves(0))})
        self.assertGreater(applied, 500)


if __name__ == "__main__":
    unittest.main()
