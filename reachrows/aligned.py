"""Parts with or without "align": the least forms with which all short rows fit, and rows that help others to fit."""

from itertools import combinations

from reachrows.books import check_machine, check_part, is_even, is_jump_row, jump_rows
from reachrows.errors import NoRow, TooMany
from reachrows.growing import growth, without
from reachrows.places import addresses_of, check_forms, unfit_rows

MOST_TRIED = 6


def sublists(members):
    """All lists of some of the members, which are ascending: by their lengths, then ascending."""
    return [list(some) for many in range(len(members) + 1) for some in combinations(members, many)]


def check_few_jumps(part):
    """Raise TooMany if the part has too many "jump" and "branch" rows to try all forms."""
    if len(jump_rows(part)) > MOST_TRIED:
        raise TooMany(f"there are more than {MOST_TRIED} rows to be short or long")


def check_row(part, row):
    """Raise NoRow if the row is no "jump" or "branch" row of the part."""
    if not is_jump_row(part, row):
        raise NoRow("this is no jump or branch row of the part")


def size_of(part, machine, forms):
    """The size of the part with the forms."""
    return addresses_of(part, machine, forms)[-1]


def least_forms(part, machine):
    """What least returns, for a part with few enough "jump" and "branch" rows."""
    fitting = [forms for forms in sublists(jump_rows(part)) if not unfit_rows(part, machine, forms)]
    # Fewer long rows are more short ones.
    return min([(size_of(part, machine, forms), -len(forms), forms) for forms in fitting])[2]


def laid_forms(part, machine):
    """The forms with which the part is laid."""
    if is_even(part):
        return growth(part, machine)[0]
    return least_forms(part, machine)


def laid_size(part, machine):
    """The size of the part as laid."""
    return size_of(part, machine, laid_forms(part, machine))


def helped(part, machine, forms):
    """The list of all (a, b) of which, with these forms, b does not fit, but fits if a is long."""
    unfit = unfit_rows(part, machine, forms)
    pairs = []
    for a in forms:
        still = unfit_rows(part, machine, without(forms, a))
        pairs.extend([(a, b) for b in unfit if b != a and b not in still])
    return pairs


def least(part, machine):
    """The first forms with which all short rows fit: by size, then by the number of long rows, then ascending."""
    check_part(part)
    check_machine(machine)
    check_few_jumps(part)
    return least_forms(part, machine)


def bar(part, machine, rival):
    """The least short row that does not fit with the rival, or None."""
    check_part(part)
    check_machine(machine)
    check_forms(part, rival)
    unfit = unfit_rows(part, machine, rival)
    return unfit[0] if unfit else None


def laid(part, machine):
    """(forms, addresses): the forms with which the part is laid, and where its rows lie with them."""
    check_part(part)
    check_machine(machine)
    forms = laid_forms(part, machine)
    return (forms, addresses_of(part, machine, forms))


def helps(part, machine):
    """The ascending list of all (a, b) of which row a helps row b with some forms."""
    check_part(part)
    check_machine(machine)
    check_few_jumps(part)
    return sorted({pair for forms in sublists(jump_rows(part)) for pair in helped(part, machine, forms)})


def shows_help(part, machine, a, b, rival):
    """Whether row a helps row b with the rival."""
    check_part(part)
    check_machine(machine)
    check_row(part, a)
    check_row(part, b)
    check_forms(part, rival)
    return (a, b) in helped(part, machine, rival)
