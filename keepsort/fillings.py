"""Fillings: tuples of different values, one for each cell of a plan."""

from keepsort.errors import InvalidFilling, InvalidNumber
from keepsort.limits import MOST_VALUE
from keepsort.plans import check_plan, is_whole


def is_value(value):
    """Tell whether the value may stand in a cell."""
    return is_whole(value) and 1 <= value <= MOST_VALUE


def check_filling(size, filling):
    """Raise InvalidFilling unless the value is a filling of so many cells."""
    if not isinstance(filling, tuple) or len(filling) != size:
        raise InvalidFilling(None)
    for index, value in enumerate(filling):
        if not is_value(value) or value in filling[:index]:
            raise InvalidFilling(index)


def is_filling(plan, value):
    """Tell whether the value, which may be any, is a filling of the plan."""
    check_plan(plan)
    try:
        check_filling(len(plan), value)
    except InvalidFilling:
        return False
    return True


def filling_of_marks(marks):
    """Return a filling whose marked cells have the greatest values, ascending among these and among the others."""
    small = [index for index, is_marked in enumerate(marks) if not is_marked]
    great = [index for index, is_marked in enumerate(marks) if is_marked]
    order = small + great
    return tuple([order.index(index) + 1 for index in range(len(marks))])


def ranks(plan, filling):
    """Return the ranks of the values, in the order of the plan."""
    check_plan(plan)
    check_filling(len(plan), filling)
    ordered = sorted(filling)
    return tuple([ordered.index(value) + 1 for value in filling])


def signs(plan, filling, limit):
    """Return a string with 1 for each value of at least the limit and 0 for each other one."""
    check_plan(plan)
    check_filling(len(plan), filling)
    if not is_whole(limit):
        raise InvalidNumber(limit)
    return "".join(["1" if value >= limit else "0" for value in filling])
