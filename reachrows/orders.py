"""Orders of a book's parts: the one with which the fewest islands will do."""

from itertools import combinations, permutations

from reachrows.books import check_book, check_machine
from reachrows.islands import check_pairs, check_room, far_pairs, lost_pairs, sizes_of


def orders_of(book):
    """All orders that begin with part 0, ascending."""
    return [[0] + list(others) for others in permutations(range(1, len(book)))]


def best_order(book, machine, room, pairs):
    """(order, islands): the first order with which the fewest islands will do, and the first such islands; or None."""
    check_book(book)
    check_machine(machine)
    check_room(book, room)
    check_pairs(book, pairs)
    wanted = far_pairs(book)
    sizes = sizes_of(book, machine)
    orders = orders_of(book)
    # Fewer islands come ahead of an earlier order.
    for many in range(len(pairs) + 1):
        for order in orders:
            for islands in combinations(pairs, many):
                if not lost_pairs(wanted, sizes, machine, order, room, islands):
                    return (order, list(islands))
    return None
