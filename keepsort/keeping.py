"""Plans that keep: those on which a sort of one kind leaves the other kind sorted."""

from keepsort.fillings import filling_of_marks
from keepsort.limits import MOST_INDEX
from keepsort.plans import check_kind, check_plan, transposed


def is_obstacle(plan, upper, lower, left, right):
    """Tell whether exactly one of the upper right and the lower left cell is missing."""
    if (upper, left) not in plan or (lower, right) not in plan:
        return False
    return ((upper, right) in plan) != ((lower, left) in plan)


def obstacle(plan):
    """Return the least two rows and two columns that keep the plan from keeping, None if it keeps."""
    check_plan(plan)
    end = MOST_INDEX + 1
    for upper in range(end):
        for lower in range(upper + 1, end):
            for left in range(end):
                for right in range(left + 1, end):
                    if is_obstacle(plan, upper, lower, left, right):
                        return upper, lower, left, right
    return None


def keeps(plan):
    """Tell whether, whatever the numbers, sorted rows stay sorted when the columns are sorted."""
    return obstacle(plan) is None


def breaks_for_rows(plan, found):
    """Return a filling with sorted rows that a sort of the columns leaves unsorted at this obstacle.

    The values of each row are all small or all great. The row `broken` has a
    cell in `left` and one in `right`. Column `left` has at least as many great
    values as cells from `broken` downwards: those of the rows below, and one
    more in `upper`, which is `broken` or lies above it. Column `right` has
    fewer great values than cells from `broken` downwards: either `broken`
    itself is small, or `lower` is, which has no cell in `left`. So after a
    sort of the columns, `broken` has a great value in `left` and a small one
    in `right`.
    """
    upper, lower, left, right = found
    broken = lower if (upper, right) not in plan else upper
    return filling_of_marks([(row, left) in plan and (row > broken or row == upper) for row, column in plan])


def breaking_filling(plan, kind):
    """Return a filling sorted for this kind but no longer after a sort of the other one, None if the plan keeps."""
    check_plan(plan)
    check_kind(kind)
    turned = plan if kind == "R" else transposed(plan)
    found = obstacle(turned)
    if found is None:
        return None
    filling = breaks_for_rows(turned, found)
    if kind == "R":
        return filling
    return tuple([filling[turned.index((column, row))] for row, column in plan])
