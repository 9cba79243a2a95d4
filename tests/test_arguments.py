"""[1] and the interface: how all functions take their arguments and give their answers."""

import inspect
import itertools
import unittest
from copy import deepcopy
from importlib import import_module

from reachrows import (
    aligned, books, cells, doors, growing, islands, lives, orders, patches, places, room, shelves, words,
)
from reachrows.errors import (
    NoBook, NoCells, NoChange, NoDoor, NoEdits, NoEven, NoForms, NoGoal, NoIslands, NoMachine, NoNumber, NoOrder,
    NoPart, NoPlaced, NoRoom, NoRow, NoSize, NoTwin, NoWrites,
)
from tests.calls import INTERFACE, PART, UNEVEN, all_calls
from tests.support import MACHINE, changes, odd_things, odd_values, refusal


def members(value):
    """All lists and dicts in a value, the value itself among them."""
    found = [value] if isinstance(value, (list, dict)) else []
    if isinstance(value, dict):
        value = list(value) + list(value.values())
    if isinstance(value, (list, tuple)):
        for member in value:
            found.extend(members(member))
    return found


class TestInterface(unittest.TestCase):

    def test_each_function_and_class_is_defined_in_the_file_that_lists_it(self):
        for file, signatures in INTERFACE.items():
            for signature in signatures:
                with self.subTest(file, signature=signature):
                    listed = import_module(file)
                    for name in signature.split("(")[0].split("."):
                        # A method stands in the class itself, not only in a base class.
                        listed = vars(listed)[name]
                    self.assertTrue(inspect.isfunction(listed) or inspect.isclass(listed))
                    self.assertEqual(listed.__module__, file)
                    self.assertEqual(listed.__qualname__ + str(inspect.signature(listed)), signature)

    def test_each_class_has_its_own_len_and_equality(self):
        for kind in (shelves.Shelf, lives.Live):
            self.assertLessEqual({"__init__", "__len__", "__eq__"}, set(vars(kind)))

    def test_each_function_is_called_here(self):
        called = {(call.function.__module__, call.function.__qualname__) for call in all_calls()}
        listed = {(file, one.split("(")[0]) for file, signatures in INTERFACE.items() for one in signatures}
        self.assertEqual(called, listed)

    def test_arguments_by_place(self):
        for call in all_calls():
            with self.subTest(call):
                self.assertEqual(call.function(*call.named.values()), call.answer)

    def test_arguments_by_their_names_in_any_order(self):
        for call in all_calls():
            for order in itertools.permutations(call.named):
                answer = call.function(**{name: call.named[name] for name in order})
                self.assertEqual(answer, call.answer, (call, order))

    def test_some_arguments_by_place_and_the_others_by_name(self):
        for call in all_calls():
            for many in range(len(call.named)):
                values = list(call.named.values())[:many]
                others = {name: call.named[name] for name in reversed(list(call.named)[many:])}
                with self.subTest(call, many=many):
                    self.assertEqual(call.function(*values, **others), call.answer)

    def test_equal_calls_return_equal_results(self):
        for call, other in zip(all_calls(), all_calls()):
            with self.subTest(call):
                self.assertEqual(call.again(), other.again())


class TestErrorsOfArguments(unittest.TestCase):

    def check(self, call, error, wrong):
        found = refusal(call.function, **{**call.named, **wrong})
        self.assertIs(found, error, (call, wrong))

    def test_each_wrong_argument_alone(self):
        for call in all_calls():
            for name in call.kinds:
                error, values = call.wrong(name)
                for value in values:
                    self.check(call, error, {name: value})

    def test_two_wrong_arguments_raise_the_error_for_the_earlier(self):
        for call in all_calls():
            for first, second in itertools.combinations(call.kinds, 2):
                error, values = call.wrong(first)
                for wrong in itertools.product(values, call.wrong(second)[1]):
                    self.check(call, error, dict(zip((first, second), wrong)))

    def test_several_wrong_arguments_raise_the_error_for_the_earliest(self):
        for call in all_calls():
            for many in range(3, len(call.kinds) + 1):
                for names in itertools.combinations(call.kinds, many):
                    error = call.wrong(names[0])[0]
                    for wrong in itertools.product(*[call.wrong(name)[1][:3] for name in names]):
                        self.check(call, error, dict(zip(names, wrong)))

    def test_the_order_in_which_arguments_are_named_means_nothing(self):
        for call in all_calls():
            if call.kinds:
                for order in itertools.permutations(call.kinds):
                    given = {name: call.wrong(name)[1][0] for name in order}
                    others = {name: value for name, value in call.named.items() if name not in given}
                    error = call.wrong(list(call.kinds)[0])[0]
                    self.assertIs(refusal(call.function, **given, **others), error, (call, order))

    def test_parts_that_are_not_even_come_behind_no_part_and_ahead_of_all_others(self):
        asked = 0
        for call in all_calls():
            if call.is_even:
                asked += 1
                self.check(call, NoEven, {"part": UNEVEN})
                self.check(call, NoPart, {"part": list(UNEVEN)})
                for name in list(call.kinds)[1:]:
                    for value in call.wrong(name)[1]:
                        self.check(call, NoEven, {"part": UNEVEN, name: value})
                self.check(call, NoEven, {"part": UNEVEN, **{name: None for name in list(call.kinds)[1:]}})
            elif "part" in call.kinds and len(call.kinds) > 1:
                self.assertIsNot(refusal(call.function, **{**call.named, "part": UNEVEN}), NoEven)
        self.assertGreater(asked, 10)

    def test_a_thing_is_never_refused(self):
        for call in all_calls():
            if "thing" in call.named:
                for thing in odd_things():
                    self.check(call, None, {"thing": thing})
                    self.assertIs(call.again(thing=thing), False)

    def test_an_error_is_raised_also_where_the_answer_would_not_need_the_argument(self):
        stop = (("stop", 1),)
        self.assertIs(refusal(books.run_book, (stop,), 65536, 0), NoNumber)
        for call in (places.places, places.misfits, places.served):
            self.assertIs(refusal(call, stop, None, []), NoMachine)
            self.assertIs(refusal(call, stop, MACHINE, [0]), NoForms)
        for call in (growing.grown, aligned.least, aligned.laid, aligned.helps):
            self.assertIs(refusal(call, stop, None), NoMachine)
        self.assertIs(refusal(growing.shows_chain, stop, None, None), NoMachine)
        self.assertIs(refusal(aligned.shows_help, PART, MACHINE, 1, 1, [0]), NoForms)
        self.assertIs(refusal(words.cheapest_words, stop, MACHINE, [(2, 1)]), NoPlaced)
        self.assertIs(refusal(words.no_words, (("load", 1),) + stop, MACHINE, [], -1), NoSize)
        self.assertIs(refusal(words.shows_no, stop, MACHINE, [], -1, None), NoSize)
        self.assertIs(refusal(islands.ways, (stop,), MACHINE, [0], [0], [(0, 1)], 0), NoIslands)
        self.assertIs(refusal(islands.shows_levels, (stop,), MACHINE, [0], [0], [], 1, None), NoGoal)
        self.assertIs(refusal(islands.lost, (stop,), MACHINE, [0], [-1], []), NoRoom)
        self.assertIs(refusal(islands.fewest_islands, (stop,), MACHINE, [0], [0], [(0, 1)]), NoIslands)
        self.assertIs(refusal(orders.best_order, (stop,), MACHINE, [0], [(0, 1)]), NoIslands)
        self.assertIs(refusal(room.reserve, (stop,), None, []), NoMachine)
        self.assertIs(refusal(room.reserve, (stop,), MACHINE, [(0, stop)] * 6 + [None]), NoEdits)
        self.assertIs(refusal(shelves.Shelf, (stop,), None, [0], []), NoMachine)
        self.assertIs(refusal(cells.cells, ((("load", 1),) + stop,), MACHINE, [0], [-1], []), NoRoom)
        self.assertIs(refusal(cells.run_cells, {}, 0, 1001), NoNumber)
        self.assertIs(refusal(cells.run_from, {}, 10 ** 9 + 1, 0, 0), NoNumber)
        self.assertIs(refusal(patches.depends, {}, -1), NoNumber)
        self.assertIs(refusal(patches.clashes, {}, {}, -1), NoNumber)
        self.assertIs(refusal(patches.safe_patch, {}, {}, -1), NoNumber)
        self.assertIs(refusal(patches.patched, {}, [(0, None), (1, 0)]), NoWrites)
        self.assertIs(refusal(doors.has_door, stop, None), NoMachine)
        self.assertIs(refusal(lives.Live, ((("load", 1),) + stop,), MACHINE, [0], [0], [(0, 1)]), NoIslands)

    def test_a_refused_call_changes_nothing_for_the_next_one(self):
        for call in all_calls():
            for name in call.kinds:
                refusal(call.function, **{**call.named, name: None})
                self.assertEqual(call.again(), call.answer)


class TestBooleans(unittest.TestCase):
    """What equals a good argument, but has a boolean in it, is refused, also directly behind the good one."""

    def check_thing(self, call, good, bad):
        self.assertEqual(good, bad)
        for thing, answer in ((good, True), (bad, False), (good, True)):
            with self.subTest(thing=thing):
                self.assertIs(call(thing), answer)

    def check_refused(self, call, good, bad, error):
        self.assertEqual(good, bad)
        for given, wanted in ((good, None), (bad, error), (good, None)):
            with self.subTest(call.__name__, given=given):
                self.assertIs(refusal(call, *given), wanted)

    def test_things(self):
        part, bad_part = (("plain", 1, 0), ("stop", 1)), (("plain", True, False), ("stop", 1))
        self.check_thing(books.is_machine, (1, 0, 2, 1, 0, 1, 0, 1), (True, False, 2, True, 0, 1, 0, 1))
        self.check_thing(books.is_part, part, bad_part)
        self.check_thing(books.is_part, (("jump", 0),), (("jump", False),))
        self.check_thing(books.is_book, (part,), (bad_part,))
        self.check_thing(books.is_book, ((("far", 0),),), ((("far", False),),))

    def test_things_of_papers(self):
        part = (("branch", 2), ("branch", 3), ("plain", 30, 0), ("load", 1), ("stop", 1))
        self.check_thing(lambda thing: growing.shows_chain(part, MACHINE, thing), [1], [True])
        given = (part, MACHINE, [], 0)
        self.check_thing(lambda thing: words.shows_no(*given, thing), ("great", [1]), ("great", [True]))
        given = ((("load", 1), ("load", 1), ("stop", 1)), MACHINE, [], 0)
        self.check_thing(lambda thing: words.shows_no(*given, thing), ("lost", [], 1), ("lost", [], True))
        self.check_thing(lambda thing: words.shows_no(*given, thing), ("lost", [], 0), ("lost", [], False))
        book = ((("stop", 50),), (("stop", 4),), (("stop", 4),))
        given = (book, (1, 9, 3, 2, 54, 2, 20, 4), [0, 1, 2], [0, 0, 0], [(1, 2)], 2)
        self.check_thing(lambda thing: islands.shows_levels(*given, thing), (None, 0, 0), (None, 0, False))
        given = (book, (1, 9, 3, 2, 70, 2, 20, 4), [0, 1, 2], [0, 0, 0], [(1, 2)], 2)
        self.check_thing(lambda thing: islands.shows_levels(*given, thing), (1, 0, 0), (True, 0, 0))

    def test_runs(self):
        book, bad_book = ((("stop", 1),),), ((("stop", True),),)
        self.check_refused(books.run_book, (book, 1, 1), (bad_book, 1, 1), NoBook)
        self.check_refused(books.run_book, (book, 1, 1), (book, True, 1), NoNumber)
        self.check_refused(books.run_book, (book, 0, 1), (book, False, 1), NoNumber)
        self.check_refused(books.run_book, (book, 0, 1), (book, 0, True), NoNumber)
        self.check_refused(books.run_book, (book, 0, 0), (book, 0, False), NoNumber)

    def test_parts_machines_and_forms(self):
        part, bad_part = (("branch", 1), ("jump", 0)), (("branch", True), ("jump", 0))
        bad_machine = (True,) + MACHINE[1:]
        for call in (places.places, places.misfits, places.served, aligned.bar):
            self.check_refused(call, (part, MACHINE, [0]), (bad_part, MACHINE, [0]), NoPart)
            self.check_refused(call, (part, MACHINE, [0]), (part, bad_machine, [0]), NoMachine)
            self.check_refused(call, (part, MACHINE, [0]), (part, MACHINE, [False]), NoForms)
            self.check_refused(call, (part, MACHINE, [0, 1]), (part, MACHINE, [0, True]), NoForms)
        for call in (growing.grown, aligned.least, aligned.laid, aligned.helps):
            self.check_refused(call, (part, MACHINE), (bad_part, MACHINE), NoPart)
            self.check_refused(call, (part, MACHINE), (part, bad_machine), NoMachine)

    def test_rows(self):
        part = (("branch", 1), ("jump", 0))
        self.check_refused(aligned.shows_help, (part, MACHINE, 0, 1, []), (part, MACHINE, False, 1, []), NoRow)
        self.check_refused(aligned.shows_help, (part, MACHINE, 0, 1, []), (part, MACHINE, 0, True, []), NoRow)
        self.check_refused(aligned.shows_help, (part, MACHINE, 0, 1, [1]), (part, MACHINE, 0, 1, [True]), NoForms)

    def test_words_and_sizes(self):
        part = (("stop", 1),)
        self.check_refused(words.with_words, (part, [(1, 1)]), (part, [(True, 1)]), NoPlaced)
        self.check_refused(words.with_words, (part, [(1, 0)]), (part, [(1, False)]), NoPlaced)
        self.check_refused(words.cheapest_words, (part, MACHINE, [(1, 1)]), (part, MACHINE, [(1, True)]), NoPlaced)
        for call, more in ((words.no_words, ()), (words.shows_no, (None,))):
            good = (part, MACHINE, [(1, 1)], 1) + more
            self.check_refused(call, good, (part, MACHINE, [(True, 1)], 1) + more, NoPlaced)
            self.check_refused(call, good, (part, MACHINE, [(1, 1)], True) + more, NoSize)

    def test_orders_rooms_islands_and_goals(self):
        book = ((("stop", 1),),) * 2
        good = (book, MACHINE, [0, 1], [0, 1])
        self.check_refused(islands.extents, good, (book, MACHINE, [False, 1], [0, 1]), NoOrder)
        self.check_refused(islands.extents, good, (book, MACHINE, [0, True], [0, 1]), NoOrder)
        self.check_refused(islands.extents, good, (book, MACHINE, [0, 1], [False, 1]), NoRoom)
        self.check_refused(islands.extents, good, (book, MACHINE, [0, 1], [0, True]), NoRoom)
        self.check_refused(islands.with_islands, (book, [(0, 1)]), (book, [(False, 1)]), NoIslands)
        self.check_refused(islands.with_islands, (book, [(0, 1)]), (book, [(0, True)]), NoIslands)
        for call in (islands.lost, islands.fewest_islands):
            self.check_refused(call, good + ([(0, 1)],), good + ([(0, True)],), NoIslands)
        self.check_refused(islands.ways, good + ([(0, 1)], 1), good + ([(0, True)], 1), NoIslands)
        self.check_refused(islands.ways, good + ([(0, 1)], 1), good + ([(0, 1)], True), NoGoal)
        self.check_refused(islands.ways, good + ([(0, 1)], 0), good + ([(0, 1)], False), NoGoal)
        self.check_refused(islands.shows_levels, good + ([], 1, ()), good + ([], True, ()), NoGoal)
        good = (book, MACHINE, [0, 1])
        self.check_refused(orders.best_order, good + ([],), (book, MACHINE, [False, 1], []), NoRoom)
        self.check_refused(orders.best_order, good + ([(0, 1)],), good + ([(0, True)],), NoIslands)

    def test_edits_and_changes(self):
        book, part, bad_part = ((("stop", 1),),) * 2, (("stop", 1),), (("stop", True),)
        self.check_refused(room.reserve, (book, MACHINE, [(1, part)]), (book, MACHINE, [(True, part)]), NoEdits)
        self.check_refused(room.reserve, (book, MACHINE, [(0, part)]), (book, MACHINE, [(0, bad_part)]), NoEdits)
        good = (book, MACHINE, [0, 1], [(0, part)])
        self.check_refused(shelves.Shelf, good, (book, MACHINE, [0, True], [(0, part)]), NoOrder)
        self.check_refused(shelves.Shelf, good, (book, MACHINE, [0, 1], [(False, part)]), NoEdits)
        shelf = shelves.Shelf(*good)
        self.check_refused(shelf.edit, (1, part), (True, part), NoChange)
        self.check_refused(shelf.edit, (0, part), (0, bad_part), NoPart)
        self.check_refused(shelf.moves, (0,), (False,), NoNumber)
        shelf.edit(0, (("stop", 17),))
        self.check_refused(shelf.moves, (1,), (True,), NoNumber)

    def test_images_and_writes(self):
        stop, bad_stop = ("stop", 1, 0), ("stop", True, 0)
        for bad in (bad_stop, ("stop", 1, False)):
            self.check_refused(cells.run_cells, ({0: stop}, 0, 1), ({0: bad}, 0, 1), NoCells)
            self.check_refused(cells.run_from, ({0: stop}, 0, 0, 1), ({0: bad}, 0, 0, 1), NoCells)
            self.check_refused(patches.depends, ({0: stop}, 0), ({0: bad}, 0), NoCells)
            self.check_refused(patches.patch, ({0: stop}, {}), ({0: bad}, {}), NoCells)
            self.check_refused(patches.patch, ({}, {0: stop}), ({}, {0: bad}), NoCells)
            self.check_refused(patches.patched, ({0: stop}, []), ({0: bad}, []), NoCells)
            self.check_refused(patches.patched, ({}, [(0, stop)]), ({}, [(0, bad)]), NoWrites)
            for call in (patches.clashes, patches.safe_patch):
                self.check_refused(call, ({0: stop}, {}, 0), ({0: bad}, {}, 0), NoCells)
                self.check_refused(call, ({}, {0: stop}, 0), ({}, {0: bad}, 0), NoCells)
        self.check_refused(patches.patched, ({}, [(0, stop)]), ({}, [(False, stop)]), NoWrites)
        self.check_refused(patches.patched, ({}, [(1, None)]), ({}, [(True, None)]), NoWrites)
        self.check_refused(cells.run_cells, ({}, 1, 1), ({}, True, 1), NoNumber)
        self.check_refused(cells.run_cells, ({}, 1, 1), ({}, 1, True), NoNumber)
        for call, more in ((cells.run_from, (0, 0)), (patches.depends, ())):
            self.check_refused(call, ({}, 0) + more, ({}, False) + more, NoNumber)
        for call in (patches.clashes, patches.safe_patch):
            self.check_refused(call, ({}, {}, 1), ({}, {}, True), NoNumber)

    def test_doors_and_live_books(self):
        door, bad_door = (("plain", 2, 0), ("stop", 1)), (("plain", 2, False), ("stop", 1))
        self.check_refused(doors.has_door, (door, MACHINE), (bad_door, MACHINE), NoPart)
        good = ((door, door), MACHINE, 1, door)
        self.check_refused(doors.twin, good, ((door, bad_door), MACHINE, 1, door), NoBook)
        self.check_refused(doors.twin, good, good[:2] + (True, door), NoDoor)
        self.check_refused(doors.twin, good, good[:3] + (bad_door,), NoTwin)
        good = ((door, door), MACHINE, [0, 1], [0, 1], [(0, 1)])
        for call in (cells.cells, lives.Live):
            self.check_refused(call, good, good[:2] + ([False, 1],) + good[3:], NoOrder)
            self.check_refused(call, good, good[:3] + ([0, True],) + good[4:], NoRoom)
            self.check_refused(call, good, good[:4] + ([(False, 1)],), NoIslands)
        live = lives.Live(*good)
        self.check_refused(live.wrote, (0,), (False,), NoNumber)
        self.assertIs(refusal(live.switch, False, door), NoDoor)
        self.assertIs(refusal(live.switch, True, door), NoDoor)
        self.assertIs(refusal(live.switch, 0, bad_door), NoTwin)


class TestWhatStaysAsItIs(unittest.TestCase):

    def test_arguments_are_unchanged(self):
        for call in all_calls():
            with self.subTest(call):
                self.assertFalse(changes(call.function, *call.named.values()))

    def test_arguments_of_refused_calls_are_unchanged(self):
        for call in all_calls():
            for name in call.kinds:
                for value in list(call.wrong(name)[1]) + odd_values():
                    given = {**call.named, name: value}
                    self.assertFalse(changes(call.function, *given.values()), (call, name, value))

    def test_things_are_unchanged(self):
        for call in all_calls():
            if "thing" in call.named:
                for thing in odd_things():
                    given = {**call.named, "thing": thing}
                    self.assertFalse(changes(call.function, *given.values()), (call, thing))

    def test_no_two_lists_of_an_answer_are_the_same_and_none_is_an_argument(self):
        lists = 0
        for call in all_calls():
            found = members(call.again()) + members(list(call.named.values()))[1:]
            self.assertEqual(len({id(one) for one in found}), len(found), call)
            lists += len(members(call.answer)) > 1
        self.assertGreater(lists, 4)

    def test_what_is_returned_is_new(self):
        for call in all_calls():
            first, second = call.again(), call.again()
            for one in members(first):
                one.clear()
            with self.subTest(call):
                self.assertEqual(second, call.answer)
                self.assertEqual(call.again(), call.answer)

    def test_later_changes_of_what_is_returned_mean_nothing_for_the_arguments(self):
        for call in all_calls():
            named = deepcopy(call.named)
            for one in members(call.again()):
                if isinstance(one, list):
                    one.insert(0, [99])
                one.clear()
            with self.subTest(call):
                self.assertEqual(call.named, named)

    def test_later_changes_of_the_arguments_mean_nothing(self):
        for call in all_calls():
            answer, named = call.again(), deepcopy(call.named)
            for one in members(list(call.named.values()))[1:]:
                one.clear()
            with self.subTest(call):
                self.assertEqual(answer, call.answer)
                self.assertEqual(call.function(**named), call.answer)

    def test_misfits_returns_no_list_that_it_was_handed(self):
        for forms in ([], [1], [3], [1, 3]):
            for reach in (0, 999):
                machine = (1, reach) + MACHINE[2:]
                answer = places.misfits(PART, machine, forms)
                self.assertIsNot(answer, forms)
                answer.append(None)
                self.assertNotIn(None, forms)

    def test_no_chosen_list_is_the_one_it_was_chosen_from(self):
        pairs = [(1, 7)]
        answer = words.cheapest_words((("load", 7), ("stop", 1)), MACHINE, pairs)
        self.assertEqual(answer, (8, pairs))
        self.assertIsNot(answer[1], pairs)
        book = ((("far", 2),), (("stop", 50),), (("stop", 4),))
        pairs = [(1, 2)]
        answer = islands.fewest_islands(book, (1, 9, 3, 2, 70, 2, 20, 4), [0, 1, 2], [0, 0, 0], pairs)
        self.assertEqual(answer, pairs)
        self.assertIsNot(answer, pairs)
        book = ((("far", 1), ("far", 2)), (("stop", 4),), (("stop", 4),))
        answer = orders.best_order(book, (1, 9, 3, 2, 30, 2, 20, 4), [0, 0, 0], pairs)
        self.assertEqual(answer, ([0, 1, 2], pairs))
        self.assertIsNot(answer[1], pairs)


if __name__ == "__main__":
    unittest.main()
