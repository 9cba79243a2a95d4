"""Calls of all functions and methods: good arguments, in their order, what they return, and wrong arguments."""

from copy import deepcopy

from reachrows import (
    aligned, books, cells, doors, growing, islands, lives, orders, patches, places, room, shelves, words,
)
from reachrows.errors import (
    NoBook, NoCells, NoChange, NoDoor, NoEdits, NoForms, NoGoal, NoIslands, NoMachine, NoNumber, NoOrder, NoPart,
    NoPlaced, NoRoom, NoRow, NoSize, NoTwin, NoWrites,
)
from tests.support import MACHINE, machine_with, nested

# Row 1 fits only if it is long, then row 3 does not fit either.
PART = (("load", 7), ("branch", 3), ("plain", 20, 1), ("jump", 0), ("word", 7))
UNEVEN = (("branch", 4), ("branch", 4), ("plain", 9, 1), ("align", 16), ("stop", 1))
HELPING = machine_with(reach=13)
TWO = ((("plain", 1, 3), ("branch", 3), ("stop", 1), ("far", 1)), (("stop", 2),))
THREE = ((("far", 2),), (("stop", 50),), (("stop", 4),))
LEAPING = machine_with(leap=70)
DOORS = ((("plain", 2, 0), ("far", 1)), (("plain", 2, 0), ("stop", 9)), (("stop", 4),))
BEFORE = {0: ("plain", 2, 3), 4: ("branch", 1, 0), 5: ("stop", 1, 0)}
AFTER = {0: ("plain", 2, 3), 4: ("jump", 1, 8), 8: ("stop", 1, 0)}

# For each kind of argument the error, and values that are wrong in every one of the calls.
WRONG = {
    "part": (NoPart, (
        None, True, list(PART), PART[:2] + PART[4:], (), PART[:3] + (["jump", 0],) + PART[4:], (("stop", True),),
        nested(tuple, 10), {},
    )),
    "machine": (NoMachine, (
        None, False, list(MACHINE), MACHINE[:7], (), MACHINE + (1,), (True,) + MACHINE[1:], nested(dict, 10),
    )),
    "forms": (NoForms, (
        None, False, (1, 3), (), [3, 1], [1, 1], [True], [1, True], [2], [5], [-1], {1: 3}, nested(list, 10),
    )),
    "row": (NoRow, (None, True, False, 2, 4, 5, -1, -4, "1", (1,), [1], {1: 1}, nested(tuple, 10))),
    "placed": (NoPlaced, (
        None, True, (), ((1, 7),), [[1, 7]], [(1, 7), (1, 7)], [(2, 7), (1, 7)], [(0, 7)], [(6, 7)], [(1, 65536)],
        [(1, True)], [(True, 7)], {1: 7}, [(1, value) for value in range(20)], nested(list, 10),
    )),
    "size": (NoSize, (None, True, False, -1, 10 ** 6 + 1, "1", (1,), [1], {1: 1})),
    "book": (NoBook, (
        None, True, [(("stop", 1),)], ((("far", 3),),), (), ([("stop", 1)],), (("stop", 1),), ((("stop", True),),),
        ((("stop", 1),),) * 6, nested(list, 10),
    )),
    "number": (NoNumber, (None, True, False, -1, 65536, "1", (1,), [1], {1: 1})),
    "order": (NoOrder, (
        None, True, (0, 1, 2), [], [0, 1], [0, 1, 1], [0, 1, 3], [False, 1, 2], [0, True, 2], {0: 0, 1: 1, 2: 2},
        nested(list, 10),
    )),
    "room": (NoRoom, (
        None, True, (0, 0, 0), [], [0, 0], [0, 0, -1], [0, 10000, 0], [False, 0, 0], [0] * 4, {0: 0, 1: 0, 2: 0},
        nested(list, 10),
    )),
    "islands": (NoIslands, (
        None, True, ((1, 2),), (), [[1, 2]], [(1, 2), (1, 2)], [(1, 2), (0, 1)], [(3, 0)], [(0, 3)], [(True, 2)],
        [(1, True)], {1: 2}, [(0, -1)], nested(list, 10),
    )),
    "goal": (NoGoal, (None, True, False, -1, 3, 4, "1", (1,), [1], {1: 1})),
    "edits": (NoEdits, (
        None, True, (), ((0, PART),), [None], [[0, PART]], [(3, PART)], [(True, PART)], [(0, list(PART))],
        [(0, (("far", 3),))], [(0, (("stop", True),))], {0: PART}, [(0, (("stop", 1),))] * 7, nested(list, 10),
    )),
    "change": (NoChange, (None, True, False, -1, 3, 4, "1", (1,), [1], {1: 1}, nested(tuple, 10))),
    "moves": (NoNumber, (None, True, False, -1, 5, "1", (1,), [1], {1: 1})),
    "cells": (NoCells, (
        None, True, (), [], [(0, ("stop", 1, 0))], {-1: ("stop", 1, 0)}, {"0": ("stop", 1, 0)}, {0: None},
        {0: ["stop", 1, 0]}, {0: ("stop", 1)}, {0: ("align", 1, 0)}, {0: ("stop", True, 0)}, {0: ("stop", 1, False)},
        {0: ("stop", 1, None)}, {number: ("stop", 1, 0) for number in range(301)}, nested(dict, 10),
    )),
    "writes": (NoWrites, (
        None, True, (), {}, {0: None}, ((0, None),), [None], [(0,)], [[0, None]], [(-1, None)], [(True, None)],
        [(0, ("stop", 1, True))], [(0, ["stop", 1, 0])], [(0, None)] * 601,
        [(number, ("stop", 1, 0)) for number in range(301)], nested(list, 10),
    )),
    "at": (NoNumber, (None, True, False, -1, 10 ** 9 + 1, "1", (1,), [1], {1: 1})),
    "door": (NoDoor, (None, True, False, -1, 2, 3, 4, 5, "1", (1,), [1], {1: 1}, nested(tuple, 10))),
    "written": (NoNumber, (None, True, False, -1, 3, "1", (1,), [1], {1: 1})),
}
WRONG["begun"] = (NoOrder, WRONG["order"][1] + ([1, 0, 2], [2, 1, 0]))
WRONG["twin"] = (NoTwin, WRONG["part"][1])
WRONG["few placed"] = (NoPlaced, WRONG["placed"][1] + ([(5, value) for value in range(6)],))
WRONG["few islands"] = (NoIslands, WRONG["islands"][1] + ([(0, 0), (0, 1), (0, 2), (1, 0), (1, 1), (1, 2), (2, 0)],))

# The kinds of those arguments that have other names.
KINDS = {
    "limit": "number", "total": "number", "a": "row", "b": "row", "table": "cells", "before": "cells", "after": "cells",
}


class Call:
    """One call of a function, and what it returns."""

    def __init__(self, called, answer, kinds, **named):
        self.called = called
        self.answer = answer
        # Calls are made from the same lists, and each one is to have its own.
        self.named = deepcopy(named)
        self.kinds = {name: kinds.get(name, KINDS.get(name, name)) for name in named if name != "thing"}
        self.is_even = "even" in kinds

    @property
    def function(self):
        """What is called."""
        return self.called

    def __repr__(self):
        return f"{self.function.__qualname__}({self.named})"

    def wrong(self, name):
        """The error for the argument, and its wrong values."""
        return WRONG[self.kinds[name]]

    def again(self, **others):
        """The call with other values for some of its arguments."""
        return self.function(**{**self.named, **others})


class MethodCall(Call):
    """One call of a method, each time of a new object: what is called is (the maker of the object, the name)."""

    @property
    def function(self):
        """The method of a new object."""
        make, name = self.called
        return getattr(make(), name)


def stage_1():
    """The calls of stage 1."""
    few = {"part": PART, "machine": MACHINE, "forms": [1, 3]}
    return [
        Call(books.is_machine, True, {}, thing=MACHINE),
        Call(books.is_part, True, {}, thing=PART),
        Call(books.is_book, True, {}, thing=TWO),
        Call(books.run_book, ("stop", 9, 4), {}, book=TWO, total=6, limit=10),
        Call(places.places, [0, 2, 3, 23, 24, 28], {}, **few),
        Call(places.misfits, [1, 3], {}, **few),
        Call(places.served, {0: None}, {}, **few),
    ]


def stage_3():
    """The calls of growing."""
    even = {"even": True}
    return [
        Call(growing.grown, ([], [1, 3]), even, part=PART, machine=MACHINE),
        Call(growing.grown, ([1, 3], []), even, part=PART, machine=machine_with(reach=99)),
        Call(growing.grown, ([], []), even, part=(("stop", 1),), machine=MACHINE),
        Call(growing.shows_chain, True, even, part=PART, machine=MACHINE, thing=[3, 1]),
        Call(growing.shows_chain, False, even, part=PART, machine=MACHINE, thing=[0]),
    ]


def stage_4():
    """The calls of aligned."""
    rival = {"rival": "forms"}
    uneven = {"part": UNEVEN, "machine": HELPING}
    return [
        Call(aligned.least, [], {}, part=PART, machine=MACHINE),
        Call(aligned.least, [1], {}, **uneven),
        Call(aligned.bar, 1, rival, part=PART, machine=MACHINE, rival=[1, 3]),
        Call(aligned.bar, None, rival, part=PART, machine=MACHINE, rival=[]),
        Call(aligned.laid, ([], [0, 2, 5, 25, 28, 32]), {}, part=PART, machine=MACHINE),
        Call(aligned.laid, ([1], [0, 3, 4, 13, 16, 17]), {}, **uneven),
        Call(aligned.helps, [(0, 1)], {}, **uneven),
        Call(aligned.helps, [], {}, part=PART, machine=MACHINE),
        Call(aligned.shows_help, False, rival, part=PART, machine=MACHINE, a=3, b=1, rival=[1, 3]),
    ]


def stage_5():
    """The calls of words."""
    even = {"even": True, "pairs": "few placed", "rival": "placed"}
    wide = {"part": PART, "machine": machine_with(span=4)}
    rows = (("load", 7), ("branch", 5), ("jump", 4), ("word", 7), ("plain", 20, 1), ("jump", 0), ("word", 7))
    return [
        Call(words.with_words, (rows, [0, 1, 4, 5, 6]), {}, part=PART, placed=[(2, 7)]),
        Call(words.with_words, (PART, [0, 1, 2, 3, 4]), {}, part=PART, placed=[]),
        Call(words.cheapest_words, (37, [(1, 7)]), even, **wide, pairs=[(1, 7), (2, 7), (5, 7)]),
        Call(words.cheapest_words, None, even, **wide, pairs=[]),
        Call(words.cheapest_words, (32, []), even, part=PART, machine=machine_with(span=40), pairs=[(1, 7)]),
        Call(words.no_words, ("lost", [1, 5], 0), even, **wide, rival=[(2, 7)], size=0),
        Call(words.no_words, ("great", [3, 5]), even, **wide, rival=[(1, 7)], size=37),
        Call(words.no_words, None, even, **wide, rival=[(1, 7)], size=38),
        Call(words.shows_no, True, even, **wide, rival=[(1, 7)], size=37, thing=("great", [5, 3])),
        Call(words.shows_no, False, even, **wide, rival=[(1, 7)], size=37, thing=("lost", [], 0)),
    ]


def stage_6():
    """The calls of islands."""
    laid_out = {"book": THREE, "machine": LEAPING, "order": [0, 1, 2], "room": [0, 0, 0]}
    few = {"pairs": "few islands"}
    rows = ((("far", 2),), (("stop", 50), ("far", 2)), (("stop", 4),))
    return [
        Call(islands.extents, [(0, 2), (16, 66), (80, 84)], {}, **laid_out),
        Call(islands.with_islands, rows, {}, book=THREE, islands=[(1, 2)]),
        Call(islands.ways, ([1], [], []), {}, **laid_out, islands=[(1, 2)], goal=2),
        Call(islands.ways, ([], [], []), {}, **{**laid_out, "machine": machine_with(leap=99)}, islands=[], goal=2),
        Call(islands.shows_levels, True, {}, **laid_out, islands=[(1, 2)], goal=2, thing=(1, 0, 0)),
        Call(islands.shows_levels, False, {}, **laid_out, islands=[(1, 2)], goal=2, thing=[1, 0, 0]),
        Call(islands.lost, [], {}, **laid_out, islands=[(1, 2)]),
        Call(islands.lost, [(0, 2)], {}, **laid_out, islands=[]),
        Call(islands.fewest_islands, [(1, 2)], few, **laid_out, pairs=[(0, 1), (1, 2), (2, 2)]),
        Call(islands.fewest_islands, None, few, **laid_out, pairs=[]),
        Call(islands.fewest_islands, [], few, **{**laid_out, "order": [0, 2, 1]}, pairs=[(1, 2)]),
    ]


def stage_7():
    """The calls of orders."""
    given = {"book": THREE, "machine": machine_with(leap=40), "room": [0, 0, 0]}
    both = ((("far", 1), ("far", 2)), (("stop", 4),), (("stop", 4),))
    few = {"pairs": "few islands"}
    return [
        Call(orders.best_order, ([0, 2, 1], []), few, **given, pairs=[(1, 2)]),
        Call(orders.best_order, ([0, 1, 2], [(1, 2)]), few, **{**given, "book": both, "machine": machine_with(leap=30)},
             pairs=[(1, 2), (2, 1)]),
        Call(orders.best_order, None, few, **{**given, "machine": machine_with(leap=9)}, pairs=[]),
    ]


def stage_8():
    """The calls of room."""
    given = {"book": THREE, "machine": MACHINE}
    edits = [(2, (("stop", 3),)), (1, (("stop", 60),)), (1, (("far", 2), ("stop", 99))), (2, THREE[2])]
    return [
        Call(room.reserve, ([0, 51, 0], [None, 2, None]), {}, **given, edits=edits),
        Call(room.reserve, ([0, 0, 0], [None, None, None]), {}, **given, edits=[]),
    ]


def moved_shelf():
    """A shelf that has told four moves, and of which one edit can be taken back."""
    shelf = shelves.Shelf(THREE, MACHINE, [0, 2, 1], [(1, (("stop", 60),))])
    for p, size in ((0, 17), (2, 17)):
        shelf.edit(p, (("stop", size),))
    shelf.undo()
    return shelf


def stage_9():
    """The calls of shelves."""
    given = {"book": THREE, "machine": MACHINE, "order": [0, 2, 1]}
    edits = [(1, (("stop", 60),)), (2, (("far", 2),))]
    moves = [(1, 32, 48), (2, 16, 32), (1, 48, 64), (1, 64, 48)]
    book = ((("stop", 17),), (("stop", 50),), (("stop", 4),))
    return [
        Call(shelves.Shelf, shelves.Shelf(**given, edits=list(edits)), {}, **given, edits=edits),
        Call(shelves.Shelf, shelves.Shelf(**given, edits=[]), {}, **given, edits=[]),
        MethodCall((moved_shelf, "edit"), None, {"p": "change"}, p=1, part=PART),
        MethodCall((moved_shelf, "undo"), None, {}),
        MethodCall((moved_shelf, "as_book"), book, {}),
        MethodCall((moved_shelf, "firsts"), [0, 48, 32], {}),
        MethodCall((moved_shelf, "moves"), moves, {"n": "moves"}, n=0),
        MethodCall((moved_shelf, "moves"), moves[3:], {"n": "moves"}, n=3),
        MethodCall((moved_shelf, "moves"), [], {"n": "moves"}, n=4),
    ]


def stage_10():
    """The calls of cells."""
    laid_out = {"book": THREE, "machine": LEAPING, "order": [0, 1, 2], "room": [0, 0, 0]}
    begun = {"order": "begun"}
    table = {0: ("far", 2, 66), 16: ("stop", 50, 0), 66: ("island", 2, 80), 80: ("stop", 4, 0)}
    return [
        Call(cells.cells, table, begun, **laid_out, islands=[(1, 2)]),
        Call(cells.cells, None, begun, **laid_out, islands=[]),
        Call(cells.run_cells, ("stop", 12, 5), {}, table=BEFORE, total=6, limit=10),
        Call(cells.run_cells, ("limit", 7, 0), {}, table={}, total=7, limit=0),
        Call(cells.run_from, ("stop", 4, 2), {}, table=AFTER, at=1, total=4, limit=10),
        Call(cells.run_from, ("lost", 4, 0), {}, table=AFTER, at=10 ** 9, total=4, limit=10),
    ]


def stage_11():
    """The calls of patches."""
    images = {"before": BEFORE, "after": AFTER}
    writes = [(4, ("jump", 1, 8)), (5, None), (8, ("stop", 1, 0))]
    return [
        Call(patches.depends, [(0, 0), (2, 5)], {}, table=BEFORE, at=0),
        Call(patches.depends, [(9, None)], {}, table=BEFORE, at=9),
        Call(patches.patch, writes, {}, **images),
        Call(patches.patch, [], {}, before=AFTER, after=dict(AFTER)),
        Call(patches.patched, AFTER, {}, table=BEFORE, writes=writes),
        Call(patches.patched, BEFORE, {}, table=BEFORE, writes=[]),
        Call(patches.clashes, [4], {}, **images, at=0),
        Call(patches.clashes, [], {}, **images, at=9),
        Call(patches.safe_patch, writes[2:] + writes[:2], {}, **images, at=0),
        Call(patches.safe_patch, None, {}, before=BEFORE, after={}, at=0),
    ]


def stage_12():
    """The calls of doors."""
    book = (DOORS[0], (("far", 3), ("stop", 9)), DOORS[2], PART)
    return [
        Call(doors.has_door, True, {}, part=DOORS[0], machine=MACHINE),
        Call(doors.has_door, False, {}, part=PART, machine=MACHINE),
        Call(doors.twin, book, {"p": "door", "part": "twin"}, book=DOORS, machine=MACHINE, p=1, part=PART),
    ]


def switched_live():
    """A live book that has written two cells, and of which one switch can be taken back."""
    live = lives.Live(DOORS, LEAPING, [0, 1, 2], [0, 0, 0], [(1, 2)])
    live.switch(0, (("stop", 4),))
    return live


def stage_13():
    """The calls of lives."""
    given = {"book": DOORS, "machine": LEAPING, "order": [0, 2, 1], "room": [0, 1, 2]}
    begun = {"order": "begun"}
    book = ((("far", 3), ("far", 1)), DOORS[1], DOORS[2], (("stop", 4),))
    image = {
        0: ("far", 2, 48), 2: ("far", 2, 16), 16: ("plain", 2, 0), 18: ("stop", 9, 0), 27: ("island", 2, 32),
        32: ("stop", 4, 0), 48: ("stop", 4, 0),
    }
    writes = [(48, ("stop", 4, 0)), (0, ("far", 2, 48))]
    stop = (("stop", 1),)
    return [
        Call(lives.Live, lives.Live(**deepcopy(given), islands=[]), begun, **given, islands=[]),
        Call(lives.Live, lives.Live(**deepcopy(given), islands=[(1, 2)]), begun, **given, islands=[(1, 2)]),
        MethodCall((switched_live, "switch"), None, {"p": "door", "part": "twin"}, p=1, part=stop),
        MethodCall((switched_live, "undo"), None, {}),
        MethodCall((switched_live, "as_book"), book, {}),
        MethodCall((switched_live, "image"), image, {}),
        MethodCall((switched_live, "wrote"), writes, {"k": "written"}, k=0),
        MethodCall((switched_live, "wrote"), writes[1:], {"k": "written"}, k=1),
        MethodCall((switched_live, "wrote"), [], {"k": "written"}, k=2),
    ]


def all_calls():
    """All calls, made anew."""
    calls = stage_1() + stage_3() + stage_4() + stage_5() + stage_6() + stage_7() + stage_8() + stage_9()
    return calls + stage_10() + stage_11() + stage_12() + stage_13()


# The names and the order of all arguments, under the file that the interface lists the function or class in.
INTERFACE = {
    "reachrows.books": ("is_machine(thing)", "is_part(thing)", "is_book(thing)", "run_book(book, total, limit)"),
    "reachrows.places": (
        "places(part, machine, forms)", "misfits(part, machine, forms)", "served(part, machine, forms)",
    ),
    "reachrows.growing": ("grown(part, machine)", "shows_chain(part, machine, thing)"),
    "reachrows.aligned": (
        "least(part, machine)", "bar(part, machine, rival)", "laid(part, machine)", "helps(part, machine)",
        "shows_help(part, machine, a, b, rival)",
    ),
    "reachrows.words": (
        "with_words(part, placed)", "cheapest_words(part, machine, pairs)", "no_words(part, machine, rival, size)",
        "shows_no(part, machine, rival, size, thing)",
    ),
    "reachrows.islands": (
        "extents(book, machine, order, room)", "with_islands(book, islands)",
        "ways(book, machine, order, room, islands, goal)",
        "shows_levels(book, machine, order, room, islands, goal, thing)",
        "lost(book, machine, order, room, islands)", "fewest_islands(book, machine, order, room, pairs)",
    ),
    "reachrows.orders": ("best_order(book, machine, room, pairs)",),
    "reachrows.room": ("reserve(book, machine, edits)",),
    "reachrows.shelves": (
        "Shelf(book, machine, order, edits)", "Shelf.edit(self, p, part)", "Shelf.undo(self)", "Shelf.as_book(self)",
        "Shelf.firsts(self)", "Shelf.moves(self, n)",
    ),
    "reachrows.cells": (
        "cells(book, machine, order, room, islands)", "run_cells(table, total, limit)",
        "run_from(table, at, total, limit)",
    ),
    "reachrows.patches": (
        "depends(table, at)", "patch(before, after)", "patched(table, writes)", "clashes(before, after, at)",
        "safe_patch(before, after, at)",
    ),
    "reachrows.doors": ("has_door(part, machine)", "twin(book, machine, p, part)"),
    "reachrows.lives": (
        "Live(book, machine, order, room, islands)", "Live.switch(self, p, part)", "Live.undo(self)",
        "Live.as_book(self)", "Live.image(self)", "Live.wrote(self, k)",
    ),
}
