"""[22]: has_door and twin."""

import unittest

from reachrows.books import is_book, is_part, run_book
from reachrows.cells import cells
from reachrows.doors import has_door, twin
from reachrows.errors import NoBook, NoDoor, NoMachine, NoPart, NoTwin
from reachrows.patches import depends, patch, safe_patch
from tests.oracles import JUMPS, some_machine
from tests.support import MACHINE, Numbers, is_integer, machine_with, odd_values, put, refusal
from tests.test_extents import some_book, some_order, stops
from tests.test_growing import CASCADE
from tests.test_shelves import BAD_PARTS
from tests.test_ways import some_islands

STOP = ("stop", 1)
DOOR = ("plain", 2, 0)
OPEN = (DOOR, ("stop", 9))


def shifted(part):
    """The part's rows, their goals greater by 1."""
    return tuple((row[0], row[1] + 1) if row[0] in JUMPS else row for row in part)


def some_door_book(numbers, many, machine):
    """(book, p): some book of which part p has a door on the machine."""
    while True:
        book, p = some_book(numbers, many), numbers.below(many)
        part = (("plain", machine[3], 0),) + shifted(book[p])
        if is_part(part):
            return put(book, p, part), p


def some_other_part(numbers, many):
    """Some part that may go to many parts."""
    return some_book(numbers, many)[numbers.below(many)]


class TestHasDoor(unittest.TestCase):

    def check(self, part, machine, answer):
        with self.subTest(part=part, machine=machine):
            self.assertIs(has_door(part, machine), answer)

    def test_parts_with_a_door(self):
        self.check(OPEN, MACHINE, True)
        self.check((DOOR, DOOR, STOP), MACHINE, True)
        self.check((DOOR, ("align", 16), ("branch", 0), STOP), MACHINE, True)
        self.check((DOOR, ("far", 4)), MACHINE, True)
        for far in range(1, 21):
            self.check((("plain", far, 0), STOP), machine_with(far=far), True)

    def test_parts_that_nearly_have_one(self):
        for row in (("plain", 1, 0), ("plain", 3, 0), ("plain", 2, 1), ("plain", 2, 999), ("plain", 99, 0),
                    ("stop", 2), ("far", 0), ("load", 0), ("align", 2), ("branch", 0)):
            self.check((row, STOP), MACHINE, False)
            self.check((row, DOOR, STOP), MACHINE, False)
        for far in range(1, 21):
            self.check(OPEN, machine_with(far=far), far == 2)
            self.check((("plain", far, 1), STOP), machine_with(far=far), False)
            self.check((("plain", far + 1, 0), STOP), machine_with(far=far), False)

    def test_wrong_arguments(self):
        for part in BAD_PARTS:
            self.assertIs(refusal(has_door, part, MACHINE), NoPart)
            self.assertIs(refusal(has_door, part, None), NoPart)
        self.assertIs(refusal(has_door, (DOOR,), MACHINE), NoPart)
        self.assertIs(refusal(has_door, (("plain", 2, False), STOP), MACHINE), NoPart)
        for value in odd_values():
            self.assertIs(refusal(has_door, value, MACHINE), NoPart)
            self.assertIs(refusal(has_door, OPEN, value), NoMachine)
            self.assertIs(refusal(has_door, (("stop", 1),), value), NoMachine)


class TestTwin(unittest.TestCase):

    def check(self, book, p, part, answer, machine=MACHINE):
        with self.subTest(book=book, p=p, part=part):
            self.assertEqual(twin(book, machine, p, part), answer)
            self.assertTrue(is_book(answer))

    def test_the_answer_is_a_book(self):
        answer = twin((OPEN,), MACHINE, 0, (STOP,))
        self.assertIs(type(answer), tuple)
        self.assertEqual([type(part) for part in answer], [tuple, tuple])
        self.assertEqual({type(row) for part in answer for row in part}, {tuple})

    def test_a_part_at_any_place(self):
        for many in range(1, 5):
            for p in range(many):
                book = put(stops(1, 2, 3, 4)[:many], p, OPEN)
                self.check(book, p, (STOP,), put(book, p, (("far", many), ("stop", 9))) + ((STOP,),))

    def test_several_parts_with_doors(self):
        book = (OPEN, OPEN, OPEN)
        through = (("far", 3), ("stop", 9))
        self.check(book, 0, OPEN, (through, OPEN, OPEN, OPEN))
        self.check(book, 1, OPEN, (OPEN, through, OPEN, OPEN))
        self.check(book, 2, OPEN, (OPEN, OPEN, through, OPEN))

    def test_the_rows_behind_the_door_stay(self):
        part = (DOOR, ("branch", 0), ("align", 8), ("load", 3), ("jump", 1), ("word", 3), DOOR, ("stop", 1))
        self.check((part,), 0, (STOP,), ((("far", 1),) + part[1:], (STOP,)))

    def test_other_parts_of_all_kinds(self):
        for part in (
            (STOP,), OPEN, CASCADE, (("jump", 0),), (("far", 0),), (("far", 1),), (("far", 2),), (("align", 4), STOP),
            (("load", 9), STOP), (("load", 9), STOP, ("word", 9)), (("branch", 1), STOP, ("far", 2), ("far", 1)),
        ):
            self.check((OPEN, (STOP,)), 0, part, ((("far", 2), ("stop", 9)), (STOP,), part))

    def test_the_door_of_other_machines(self):
        for far in range(1, 21):
            part = (("plain", far, 0), STOP)
            self.check((part,), 0, (STOP,), ((("far", 1), STOP), (STOP,)), machine_with(far=far))

    def test_four_parts_become_five(self):
        book = (OPEN,) + stops(1, 1, 1)
        self.check(book, 0, (("far", 4),), ((("far", 4), ("stop", 9)),) + stops(1, 1, 1) + ((("far", 4),),))

    def test_the_twin_has_no_such_door(self):
        answer = twin((OPEN, OPEN), MACHINE, 0, OPEN)
        self.assertEqual([has_door(part, MACHINE) for part in answer], [False, True, True])
        self.assertIs(refusal(twin, answer, MACHINE, 0, OPEN), NoDoor)
        self.check(answer, 2, (STOP,), answer[:2] + ((("far", 3), ("stop", 9)), (STOP,)))

    def test_a_run_goes_as_if_the_other_part_stood_behind_the_door(self):
        numbers = Numbers(220)
        ends = {"stop": 0, "limit": 0}
        for _ in range(1500):
            many, machine = 1 + numbers.below(4), some_machine(numbers)
            book, p = some_door_book(numbers, many, machine)
            part = some_other_part(numbers, many)
            merged = put(book, p, (book[p][0],) + shifted(part))
            if is_book(merged):
                whole = twin(book, machine, p, part)
                for total in (0, 1, 65535):
                    for limit in (0, 1, 2, 9, 200):
                        answer = run_book(merged, total, limit)
                        self.assertEqual(run_book(whole, total, limit), answer, (book, p, part, total, limit))
                        ends[answer[0]] += answer[2] > 2
        self.assertGreater(min(ends.values()), 500, ends)


class TestCellsOfTheTwin(unittest.TestCase):

    def cases(self, seed, many_cases):
        """(cells, cells of the twin, address of the door, addresses of part n), where there are such."""
        numbers = Numbers(seed)
        for _ in range(many_cases):
            many, machine = 1 + numbers.below(4), some_machine(numbers, span=90)
            machine = machine[:4] + (40 + numbers.below(200),) + machine[5:]
            book, p = some_door_book(numbers, many, machine)
            order = [number for number in some_order(numbers, many) if number != 0]
            room = [numbers.below(20) for _ in range(many)]
            islands = some_islands(numbers, many, 10, numbers.below(many))
            whole = twin(book, machine, p, some_other_part(numbers, many + 1))
            table = cells(book, machine, [0] + order, room, islands)
            table_after = cells(whole, machine, [0] + order + [many], room + [numbers.below(9)], islands)
            if table is not None and table_after is not None:
                yield table, table_after

    def test_they_are_those_of_the_book_but_for_the_door_and_part_n(self):
        doors = 0
        for table, table_after in self.cases(221, 900):
            writes = patch(table, table_after)
            behind = max(at + cell[1] for at, cell in table.items())
            door, others = writes[0], writes[1:]
            self.assertIn(door[0], table)
            self.assertEqual((table[door[0]][0], door[1][0]), ("plain", "far"))
            self.assertEqual(table[door[0]][1], door[1][1])
            self.assertTrue(all(address >= behind for address, _ in others))
            # The door goes at once to part n: there is no island with this goal.
            first = door[1][2]
            self.assertTrue(all(address >= first for address, _ in others))
            self.assertEqual(first % 16, 0)
            doors += 1
        self.assertGreater(doors, 200)

    def test_a_safe_patch_from_each_address_whose_ranges_have_an_end(self):
        ended = endless = 0
        for table, table_after in self.cases(222, 300):
            for at in range(0, max(table) + 40, 3):
                ranges = depends(table, at)
                if ranges[-1][1] is None:
                    endless += 1
                else:
                    ended += 1
                    self.assertIsNot(safe_patch(table, table_after, at), None)
                    self.assertIsNot(safe_patch(table_after, table, at), None)
            self.assertIsNot(depends(table, 0)[-1][1], None)
        self.assertGreater(min(ended, endless), 300)


class TestWrongArguments(unittest.TestCase):

    BOOK = (OPEN, (STOP,), (("plain", 2, 1), STOP))
    NO_DOORS = (None, True, False, -1, -3, 1, 2, 3, 4, 10 ** 20, "0", "", (), (0,), [], [0], {}, {0: 0})

    def check(self, error, **wrong):
        given = {"book": self.BOOK, "machine": MACHINE, "p": 0, "part": (STOP,)}
        given.update(wrong)
        with self.subTest(wrong=repr(wrong)[:200]):
            self.assertIs(refusal(twin, *given.values()), error)

    def test_no_part_with_a_door(self):
        self.check(None)
        for p in self.NO_DOORS:
            self.check(NoDoor, p=p)
        self.check(NoDoor, machine=machine_with(far=3))

    def test_no_part_and_no_book(self):
        for part in BAD_PARTS:
            self.check(NoTwin, part=part)
        for goal in range(5):
            self.check(None if goal <= 3 else NoTwin, part=(("far", goal),))

    def test_five_parts_already(self):
        for many in range(1, 6):
            self.check(None if many < 5 else NoTwin, book=(OPEN,) * many)
            self.check(None if many < 5 else NoTwin, book=(OPEN,) * many, p=many - 1)

    def test_the_order_of_the_errors(self):
        for part in BAD_PARTS:
            for p in self.NO_DOORS:
                self.check(NoDoor, p=p, part=part)
            self.check(NoMachine, machine=None, p=1, part=part)
            self.check(NoBook, book=None, machine=None, p=1, part=part)
        self.check(NoDoor, book=(OPEN,) * 4 + ((STOP,),), p=4)

    def test_odd_values(self):
        for value in odd_values():
            self.check(NoBook, book=value)
            self.check(NoMachine, machine=value)
            self.check(None if is_integer(value) and value == 0 else NoDoor, p=value)
            self.check(NoTwin, part=value)


if __name__ == "__main__":
    unittest.main()
