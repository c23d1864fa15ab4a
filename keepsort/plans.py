"""Plans: ascending tuples of cells, and their lines."""

from keepsort.errors import InvalidKind, InvalidPlan
from keepsort.limits import MOST_CELLS, MOST_INDEX


def is_whole(value):
    """Tell whether the value is an integer; True and False are none."""
    return isinstance(value, int) and not isinstance(value, bool)


def is_between(value, least, most):
    """Tell whether the value is an integer within these bounds."""
    return is_whole(value) and least <= value <= most


def is_place(value):
    """Tell whether the value is a number of a row or a column."""
    return is_between(value, 0, MOST_INDEX)


def is_cell(value):
    """Tell whether the value is a cell of some plan."""
    return isinstance(value, tuple) and len(value) == 2 and is_place(value[0]) and is_place(value[1])


def check_plan(plan):
    """Raise InvalidPlan unless the value is a plan."""
    if not isinstance(plan, tuple) or not 1 <= len(plan) <= MOST_CELLS:
        raise InvalidPlan(None)
    for index, cell in enumerate(plan):
        if not is_cell(cell):
            raise InvalidPlan(index)
        if index > 0 and cell <= plan[index - 1]:
            raise InvalidPlan(index)


def is_kind(value):
    """Tell whether the value, which may be any, is a kind."""
    return isinstance(value, str) and value in ("R", "C")


def check_kind(kind):
    """Raise InvalidKind unless the value is a kind."""
    if not is_kind(kind):
        raise InvalidKind(kind)


def is_plan(value):
    """Tell whether the value, which may be any, is a plan."""
    try:
        check_plan(value)
    except InvalidPlan:
        return False
    return True


def lines(plan, kind):
    """Return the lines of this kind, each a tuple of indexes of cells in the plan."""
    check_plan(plan)
    check_kind(kind)
    side = 0 if kind == "R" else 1
    found = {}
    # A plan ascends, so the cells of each line come in the order of the line.
    for index, cell in enumerate(plan):
        found.setdefault(cell[side], []).append(index)
    return tuple([tuple(found[place]) for place in sorted(found)])


def transposed(plan):
    """Return the plan with rows and columns exchanged."""
    check_plan(plan)
    return tuple(sorted([(column, row) for row, column in plan]))


def is_rectangle(plan):
    """Tell whether the plan has every cell between its outermost rows and columns."""
    check_plan(plan)
    rows = [row for row, column in plan]
    columns = [column for row, column in plan]
    height = max(rows) - min(rows) + 1
    width = max(columns) - min(columns) + 1
    # The cells differ and lie within these bounds, so it is enough to count them.
    return len(plan) == height * width
