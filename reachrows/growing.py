"""Even parts: rows become long one by one, and a chain of rows shows that they must."""

from reachrows.books import check_machine, check_part, is_even, is_jump_row, jump_rows
from reachrows.errors import NoEven
from reachrows.places import unfit_rows


def check_even_part(part):
    """Raise NoPart if the part is none, NoEven if it is not even."""
    check_part(part)
    if not is_even(part):
        raise NoEven("this part is not even")


def without(rows, row):
    """The list of all rows but this one."""
    return [other for other in rows if other != row]


def growth(part, machine):
    """What grown returns, for an even part and a machine that are known to be such."""
    forms = jump_rows(part)
    chain = []
    unfit = unfit_rows(part, machine, forms)
    while unfit:
        chain.append(unfit[0])
        forms = without(forms, unfit[0])
        unfit = unfit_rows(part, machine, forms)
    return (forms, chain)


def is_chain(part, machine, thing):
    """Whether the thing is a chain of the even part."""
    if not isinstance(thing, list):
        return False
    forms = jump_rows(part)
    for row in thing:
        # A row that stands twice is long the second time, so that it is no longer one that does not fit.
        if not is_jump_row(part, row) or row not in unfit_rows(part, machine, forms):
            return False
        forms = without(forms, row)
    return True


def grown(part, machine):
    """(forms, chain): the greatest forms with which all short rows fit, and the rows that became long, in turn."""
    check_even_part(part)
    check_machine(machine)
    return growth(part, machine)


def shows_chain(part, machine, thing):
    """Whether the thing is a chain, so that none of its rows is short in any forms with which all fit."""
    check_even_part(part)
    check_machine(machine)
    return is_chain(part, machine, thing)
