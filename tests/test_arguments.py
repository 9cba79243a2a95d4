"""[1] and the interface: how the functions of books and places take their arguments and give their answers."""

import inspect
import itertools
import unittest

from reachrows import books, places
from reachrows.errors import NoBook, NoForms, NoMachine, NoNumber, NoPart
from tests.support import MACHINE, changes, nested, odd_values, refusal

PART = (("load", 7), ("branch", 3), ("plain", 20, 1), ("jump", 0), ("word", 7))
FORMS = [1, 3]
BOOK = ((("plain", 1, 3), ("branch", 3), ("stop", 1), ("far", 1)), (("stop", 2),))

# Each call with good arguments, by their names and in their order.
CALLS = (
    (books.is_machine, {"thing": MACHINE}),
    (books.is_part, {"thing": PART}),
    (books.is_book, {"thing": BOOK}),
    (books.run_book, {"book": BOOK, "total": 6, "limit": 10}),
    (places.places, {"part": PART, "machine": MACHINE, "forms": FORMS}),
    (places.misfits, {"part": PART, "machine": MACHINE, "forms": FORMS}),
    (places.served, {"part": PART, "machine": MACHINE, "forms": FORMS}),
)

ANSWERS = (
    True, True, True, ("stop", 9, 4), [0, 2, 3, 23, 24, 28], [1, 3], {0: None},
)

# The error for each argument, and values that it is not.
ERRORS = {"book": NoBook, "total": NoNumber, "limit": NoNumber, "part": NoPart, "machine": NoMachine, "forms": NoForms}
BAD = {
    "book": (None, True, [BOOK[0], BOOK[1]], BOOK[:1], (), (list(BOOK[0]), BOOK[1]), nested(list, 10)),
    "total": (None, True, False, -1, 65536, "1", (1,), [1], {1: 1}),
    "limit": (None, True, False, -1, 1001, "1", (1,), [1], {1: 1}),
    "part": (None, True, list(PART), PART[:2], (), PART[:3] + (["jump", 0],) + PART[4:], nested(tuple, 10)),
    "machine": (None, False, list(MACHINE), MACHINE[:7], (), MACHINE + (1,), (True,) + MACHINE[1:], nested(dict, 10)),
    "forms": (None, False, tuple(FORMS), [3, 1], [1, 1], [True], [1, True], [0], [5], {1: 3}, nested(list, 10)),
}


class TestInterface(unittest.TestCase):

    def test_names_and_order_of_the_arguments(self):
        for call, named in CALLS:
            with self.subTest(call.__name__):
                self.assertEqual(list(inspect.signature(call).parameters), list(named))

    def test_each_function_is_defined_in_the_file_that_lists_it(self):
        for call, _ in CALLS:
            file = "reachrows.books" if call.__name__[:3] in ("is_", "run") else "reachrows.places"
            with self.subTest(call.__name__):
                self.assertEqual(call.__module__, file)

    def test_arguments_by_place(self):
        for (call, named), answer in zip(CALLS, ANSWERS):
            with self.subTest(call.__name__):
                self.assertEqual(call(*named.values()), answer)

    def test_arguments_by_their_names_in_any_order(self):
        for (call, named), answer in zip(CALLS, ANSWERS):
            for order in itertools.permutations(named):
                with self.subTest(call.__name__, order=order):
                    self.assertEqual(call(**{name: named[name] for name in order}), answer)

    def test_some_arguments_by_place_and_the_others_by_name(self):
        for (call, named), answer in zip(CALLS, ANSWERS):
            for many in range(len(named)):
                values = list(named.values())[:many]
                others = {name: named[name] for name in reversed(list(named)[many:])}
                with self.subTest(call.__name__, many=many):
                    self.assertEqual(call(*values, **others), answer)

    def test_equal_calls_return_equal_results(self):
        for call, named in CALLS:
            with self.subTest(call.__name__):
                self.assertEqual(call(**named), call(**named))


class TestErrorsOfArguments(unittest.TestCase):

    def test_each_wrong_argument_alone(self):
        for call, named in CALLS[3:]:
            for name in named:
                for value in BAD[name]:
                    with self.subTest(call.__name__, name=name, value=repr(value)[:60]):
                        self.assertIs(refusal(call, **{**named, name: value}), ERRORS[name])

    def test_several_wrong_arguments_raise_the_error_for_the_earliest(self):
        for call, named in CALLS[3:]:
            for many in range(2, len(named) + 1):
                for wrong in itertools.combinations(named, many):
                    for values in itertools.product(*[BAD[name] for name in wrong]):
                        # The names come in the order of the interface, so the first of them is the earliest.
                        given = {**named, **dict(zip(wrong, values))}
                        self.assertIs(refusal(call, **given), ERRORS[wrong[0]], (call.__name__, given))

    def test_the_order_in_which_arguments_are_named_means_nothing(self):
        for call, named in CALLS[3:]:
            for order in itertools.permutations(named):
                given = {name: BAD[name][0] for name in order}
                with self.subTest(call.__name__, order=order):
                    self.assertIs(refusal(call, **given), ERRORS[list(named)[0]])

    def test_an_error_is_raised_also_where_the_answer_would_not_need_the_argument(self):
        self.assertIs(refusal(books.run_book, ((("stop", 1),),), 65536, 0), NoNumber)
        for call in (places.places, places.misfits, places.served):
            self.assertIs(refusal(call, (("stop", 1),), None, []), NoMachine)
            self.assertIs(refusal(call, (("stop", 1),), MACHINE, [0]), NoForms)

    def test_a_refused_call_changes_nothing_for_the_next_one(self):
        for (call, named), answer in zip(CALLS[3:], ANSWERS[3:]):
            for name in named:
                refusal(call, **{**named, name: None})
                self.assertEqual(call(**named), answer)


class TestBooleans(unittest.TestCase):
    """What equals a good argument, but has a boolean in it, is refused, also directly behind the good one."""

    def check_thing(self, call, good, bad):
        self.assertEqual(good, bad)
        for thing, answer in ((good, True), (bad, False), (good, True)):
            with self.subTest(call.__name__, thing=thing):
                self.assertIs(call(thing), answer)

    def check_refused(self, call, good, bad, error):
        self.assertEqual(good, bad)
        for given, wanted in ((good, None), (bad, error), (good, None)):
            with self.subTest(call.__name__, given=given):
                self.assertIs(refusal(call, *given), wanted)

    def test_things(self):
        part, bad_part = (("plain", 1, 0), ("stop", 1)), (("plain", True, False), ("stop", 1))
        self.check_thing(books.is_machine, (1, 0, 2, 1, 0, 1, 0, 1), (True, False, 2, True, 0, 1, 0, 1))
        self.check_thing(books.is_part, part, bad_part)
        self.check_thing(books.is_part, (("jump", 0),), (("jump", False),))
        self.check_thing(books.is_book, (part,), (bad_part,))
        self.check_thing(books.is_book, ((("far", 0),),), ((("far", False),),))

    def test_runs(self):
        book, bad_book = ((("stop", 1),),), ((("stop", True),),)
        self.check_refused(books.run_book, (book, 1, 1), (bad_book, 1, 1), NoBook)
        self.check_refused(books.run_book, (book, 1, 1), (book, True, 1), NoNumber)
        self.check_refused(books.run_book, (book, 0, 1), (book, False, 1), NoNumber)
        self.check_refused(books.run_book, (book, 0, 1), (book, 0, True), NoNumber)
        self.check_refused(books.run_book, (book, 0, 0), (book, 0, False), NoNumber)

    def test_places(self):
        part, bad_part = (("branch", 1), ("jump", 0)), (("branch", True), ("jump", 0))
        bad_machine = (True,) + MACHINE[1:]
        for call in (places.places, places.misfits, places.served):
            self.check_refused(call, (part, MACHINE, [0]), (bad_part, MACHINE, [0]), NoPart)
            self.check_refused(call, (part, MACHINE, [0]), (part, bad_machine, [0]), NoMachine)
            self.check_refused(call, (part, MACHINE, [0]), (part, MACHINE, [False]), NoForms)
            self.check_refused(call, (part, MACHINE, [0, 1]), (part, MACHINE, [0, True]), NoForms)


class TestWhatStaysAsItIs(unittest.TestCase):

    def test_arguments_are_unchanged(self):
        for call, named in CALLS:
            with self.subTest(call.__name__):
                self.assertFalse(changes(call, *named.values()))

    def test_arguments_of_refused_calls_are_unchanged(self):
        for call, named in CALLS[3:]:
            for name in named:
                for value in list(BAD[name]) + odd_values():
                    with self.subTest(call.__name__, name=name, value=repr(value)[:60]):
                        self.assertFalse(changes(call, *{**named, name: value}.values()))

    def test_what_is_returned_is_new(self):
        for (call, named), answer in zip(CALLS[4:], ANSWERS[4:]):
            first, second = call(**named), call(**named)
            with self.subTest(call.__name__):
                self.assertIsNot(first, second)
                first.clear()
                self.assertEqual(second, answer)
                self.assertEqual(call(**named), answer)

    def test_misfits_returns_no_list_that_it_was_handed(self):
        for forms in ([], [1], [3], [1, 3]):
            for reach in (0, 999):
                machine = (1, reach) + MACHINE[2:]
                answer = places.misfits(PART, machine, forms)
                self.assertIsNot(answer, forms)
                answer.append(None)
                self.assertNotIn(None, forms)

    def test_later_changes_of_what_is_returned_mean_nothing(self):
        forms = [1, 3]
        for (call, named), answer in zip(CALLS[4:], ANSWERS[4:]):
            given = {**named, "forms": forms}
            told = call(**given)
            told[0] = 99
            with self.subTest(call.__name__):
                self.assertEqual(call(**given), answer)
                self.assertEqual(forms, [1, 3])

    def test_later_changes_of_the_arguments_mean_nothing(self):
        for (call, named), answer in zip(CALLS[4:], ANSWERS[4:]):
            forms = [1, 3]
            told = call(**{**named, "forms": forms})
            forms.clear()
            with self.subTest(call.__name__):
                self.assertEqual(told, answer)
                self.assertEqual(call(**{**named, "forms": [1, 3]}), answer)


if __name__ == "__main__":
    unittest.main()
