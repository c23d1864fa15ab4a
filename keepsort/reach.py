"""The tables that result from a table by words."""

from keepsort.errors import OtherValues
from keepsort.fillings import check_filling
from keepsort.plans import check_plan
from keepsort.sorting import sort_lines
from keepsort.turns import first_words


def reachable(plan, filling):
    """Return the pairs of word and table for all tables that result from this one, each with its first word."""
    check_plan(plan)
    check_filling(len(plan), filling)
    return first_words(filling, lambda table, kind: sort_lines(plan, table, kind))


def word_to(plan, filling, other):
    """Return the first word that turns the filling into the other one, None if there is none."""
    check_plan(plan)
    check_filling(len(plan), filling)
    check_filling(len(plan), other)
    if sorted(filling) != sorted(other):
        raise OtherValues()
    for word, table in reachable(plan, filling):
        if table == other:
            return word
    return None
