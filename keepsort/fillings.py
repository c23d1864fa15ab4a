"""Fillings: tuples of different values, one for each cell of a plan; and tables of names in place of values."""

from keepsort.errors import InvalidFilling, InvalidNumber
from keepsort.limits import MOST_VALUE
from keepsort.plans import check_plan, is_between, is_whole

NAME_LETTERS = "abcdefghijklmnopqrstuvwxyz"
MOST_NAME_LETTERS = 6


def first_fault(values, most):
    """Return the index of the first value that is no integer from 1 to `most` or occurs earlier, None without one."""
    for index, value in enumerate(values):
        if not is_between(value, 1, most) or value in values[:index]:
            return index
    return None


def check_filling(size, filling):
    """Raise InvalidFilling unless the value is a filling of so many cells."""
    if not isinstance(filling, tuple) or len(filling) != size:
        raise InvalidFilling(None)
    index = first_fault(filling, MOST_VALUE)
    if index is not None:
        raise InvalidFilling(index)


def is_filling(plan, value):
    """Tell whether the value, which may be any, is a filling of the plan."""
    check_plan(plan)
    try:
        check_filling(len(plan), value)
    except InvalidFilling:
        return False
    return True


def filling_of_marks(marks):
    """Return a filling whose marked cells have the greatest values, ascending among these and among the others."""
    small = [index for index, is_marked in enumerate(marks) if not is_marked]
    great = [index for index, is_marked in enumerate(marks) if is_marked]
    order = small + great
    return tuple([order.index(index) + 1 for index in range(len(marks))])


def ranks(plan, filling):
    """Return the ranks of the values, in the order of the plan."""
    check_plan(plan)
    check_filling(len(plan), filling)
    ordered = sorted(filling)
    return tuple([ordered.index(value) + 1 for value in filling])


def signs(plan, filling, limit):
    """Return a string with 1 for each value of at least the limit and 0 for each other one."""
    check_plan(plan)
    check_filling(len(plan), filling)
    if not is_whole(limit):
        raise InvalidNumber(limit)
    return "".join(["1" if value >= limit else "0" for value in filling])


def is_name(value):
    """Tell whether the value, which may be any, is a name."""
    if not isinstance(value, str) or not 1 <= len(value) <= MOST_NAME_LETTERS:
        return False
    return all([letter in NAME_LETTERS for letter in value])


def is_name_table(size, value):
    """Tell whether the value, which may be any, is a tuple of so many different names."""
    if not isinstance(value, tuple) or len(value) != size:
        return False
    return all([is_name(name) and name not in value[:index] for index, name in enumerate(value)])
