"""Books laid out in an order: how far their parts lie apart, and islands by which "far" rows come to their goals."""

from reachrows.aligned import laid_size, sublists
from reachrows.books import (
    FAR, LEAP,
    are_pairs, are_within, check_book, check_machine, far_goals, is_book, is_within,
)
from reachrows.errors import NoGoal, NoIslands, NoOrder, NoRoom

GREATEST_ROOM = 9999
GRID = 16
MOST_PAIRS = 6


def is_part_number(book, thing):
    """Whether the thing is the number of a part of the book."""
    return is_within(thing, 0, len(book) - 1)


def check_order(book, order):
    """Raise NoOrder if the order is none of the book's parts."""
    if not isinstance(order, list) or not all([is_part_number(book, part) for part in order]):
        raise NoOrder("this is no list of parts")
    if sorted(order) != list(range(len(book))):
        raise NoOrder("this list has not each part once")


def check_room(book, room):
    """Raise NoRoom if the room is none for the book's parts."""
    if not isinstance(room, list) or not are_within(room, ((0, GREATEST_ROOM),) * len(book)):
        raise NoRoom(f"this is no list of integers from 0 to {GREATEST_ROOM}, one for each part")


def check_goal(book, goal):
    """Raise NoGoal if the goal is no part's number."""
    if not is_part_number(book, goal):
        raise NoGoal("this is no part's number")


def put_islands(book, islands):
    """What with_islands returns, for islands that are known to be such; a part too long makes no book."""
    rows = [tuple([("far", goal) for at, goal in islands if at == number]) for number in range(len(book))]
    return tuple([part + behind for part, behind in zip(book, rows)])


def check_islands(book, islands):
    """Raise NoIslands if these are no islands, or would make a book that is none."""
    if not are_pairs(islands, ((0, len(book) - 1),) * 2):
        raise NoIslands("these are no islands of the book's parts")
    if not is_book(put_islands(book, islands)):
        raise NoIslands("with these islands a part is too long")


def check_pairs(book, pairs):
    """Raise NoIslands if these are no islands, or too many to look at all lists of some of them."""
    check_islands(book, pairs)
    if len(pairs) > MOST_PAIRS:
        raise NoIslands(f"there are more than {MOST_PAIRS} pairs")


def check_ordered(book, machine, order, room):
    """Raise the error for the first of the four that there is not."""
    check_book(book)
    check_machine(machine)
    check_order(book, order)
    check_room(book, room)


def sizes_of(book, machine):
    """The list of the sizes of all parts, as laid."""
    return [laid_size(part, machine) for part in book]


def sizes_with(sizes, machine, islands):
    """The list of the sizes of all parts with islands."""
    # An island lies behind all other rows of its part, so that it moves none of them, and changes no form.
    posts = [part for part, goal in islands]
    return [size + machine[FAR] * posts.count(part) for part, size in enumerate(sizes)]


def spread(sizes, order, room):
    """The list of (first, end) for each part, for parts of these sizes."""
    found = {}
    first = 0
    for part in order:
        end = first + sizes[part] + room[part]
        found[part] = (first, end)
        first = end + -end % GRID
    return [found[number] for number in range(len(sizes))]


def reaches(spans, leap, part, other):
    """Whether the part reaches the other one, for parts that lie at these (first, end)."""
    firsts = [spans[part][0], spans[other][0]]
    ends = [spans[part][1], spans[other][1]]
    return max(ends) - min(firsts) <= leap


def ways_over(spans, leap, islands, goal):
    """What ways returns, for parts that lie, with their islands, at these (first, end)."""
    parts = list(range(len(spans)))
    posts = [post for post, to in islands if to == goal]
    found = {number: [] for number in parts if reaches(spans, leap, number, goal)}
    for _ in range(len(parts)):
        # A part not found yet reaches none of these but the latest ones, so that it goes as short a way by each.
        steps = [post for post in posts if post in found]
        for part in parts:
            firsts = [post for post in steps if reaches(spans, leap, part, post)]
            if part not in found and firsts:
                # The least island is the first step of the first list, and goes on by its own first list.
                found[part] = [firsts[0]] + found[firsts[0]]
    return tuple([found.get(number) for number in parts])


def far_pairs(book):
    """The ascending list of all different (part, goal) of the book's "far" rows."""
    return sorted({(number, goal) for number, part in enumerate(book) for goal in far_goals(part)})


def lost_pairs(pairs, sizes, machine, order, room, islands):
    """Those of the (part, goal) that cannot come to their goals, for parts of these sizes without the islands."""
    spans = spread(sizes_with(sizes, machine, islands), order, room)
    found = [ways_over(spans, machine[LEAP], islands, goal) for goal in range(len(sizes))]
    return [(part, goal) for part, goal in pairs if found[goal][part] is None]


def ways_to(book, machine, order, room, islands, goal):
    """What ways returns, for arguments that are known to be such."""
    spans = spread(sizes_with(sizes_of(book, machine), machine, islands), order, room)
    return ways_over(spans, machine[LEAP], islands, goal)


def is_levels(thing, levels):
    """Whether the thing is the tuple of these levels."""
    if not isinstance(thing, tuple) or len(thing) != len(levels):
        return False
    # A boolean equals a level, but is none.
    return all([one is None if level is None else is_within(one, level, level) for one, level in zip(thing, levels)])


def extents(book, machine, order, room):
    """The list of (first, end) for each part."""
    check_ordered(book, machine, order, room)
    return spread(sizes_of(book, machine), order, room)


def with_islands(book, islands):
    """The book with the islands' "far" rows behind the last rows of their parts."""
    check_book(book)
    check_islands(book, islands)
    return put_islands(book, islands)


def ways(book, machine, order, room, islands, goal):
    """A tuple with, for each part, the list of the islands' parts by which it comes to the goal, or None."""
    check_ordered(book, machine, order, room)
    check_islands(book, islands)
    check_goal(book, goal)
    return ways_to(book, machine, order, room, islands, goal)


def shows_levels(book, machine, order, room, islands, goal, thing):
    """Whether the thing is the tuple of all levels of the goal."""
    check_ordered(book, machine, order, room)
    check_islands(book, islands)
    check_goal(book, goal)
    found = ways_to(book, machine, order, room, islands, goal)
    return is_levels(thing, [None if way is None else len(way) for way in found])


def lost(book, machine, order, room, islands):
    """The ascending list of all different (part, goal) of "far" rows that cannot come to their goals."""
    check_ordered(book, machine, order, room)
    check_islands(book, islands)
    return lost_pairs(far_pairs(book), sizes_of(book, machine), machine, order, room, islands)


def fewest_islands(book, machine, order, room, pairs):
    """The first list of some of the pairs, by their number, then ascending, with which nothing is lost, or None."""
    check_ordered(book, machine, order, room)
    check_pairs(book, pairs)
    wanted = far_pairs(book)
    sizes = sizes_of(book, machine)
    for islands in sublists(pairs):
        if not lost_pairs(wanted, sizes, machine, order, room, islands):
            return islands
    return None
