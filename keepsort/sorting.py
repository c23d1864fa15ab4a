"""Sorts of the rows and the columns of a table."""

from keepsort.errors import InvalidWord
from keepsort.fillings import check_filling
from keepsort.limits import MOST_LETTERS
from keepsort.plans import check_kind, check_plan, lines


def check_word(word):
    """Raise InvalidWord unless the value is a word."""
    if not isinstance(word, str) or len(word) > MOST_LETTERS:
        raise InvalidWord(None)
    for index, letter in enumerate(word):
        if letter not in ("R", "C"):
            raise InvalidWord(index)


def is_word(value):
    """Tell whether the value, which may be any, is a word."""
    try:
        check_word(value)
    except InvalidWord:
        return False
    return True


def other_kind(kind):
    """Return the kind that is not this one."""
    return "C" if kind == "R" else "R"


def sorted_along(groups, filling):
    """Return the filling with its values in ascending order along each of these lines."""
    result = list(filling)
    for line in groups:
        values = sorted([filling[index] for index in line])
        for index, value in zip(line, values):
            result[index] = value
    return tuple(result)


def sort_lines(plan, filling, kind):
    """Return the filling after a sort of this kind."""
    check_plan(plan)
    check_filling(len(plan), filling)
    return sorted_along(lines(plan, kind), filling)


def after(plan, filling, word):
    """Return the filling after the sorts of the word, from left to right."""
    check_plan(plan)
    check_filling(len(plan), filling)
    check_word(word)
    groups = {"R": lines(plan, "R"), "C": lines(plan, "C")}
    result = filling
    for letter in word:
        result = sorted_along(groups[letter], result)
    return result


def is_sorted(plan, filling, kind):
    """Tell whether the values ascend in each line of this kind."""
    return sort_lines(plan, filling, kind) == filling


def is_settled_table(plan, filling):
    """Tell whether the table is sorted for both kinds."""
    return is_sorted(plan, filling, "R") and is_sorted(plan, filling, "C")


def rest(plan, filling, kind):
    """Return how many sorts in turns settle the table, the first one of this kind, and the filling then."""
    check_plan(plan)
    check_filling(len(plan), filling)
    check_kind(kind)
    count = 0
    result = filling
    coming = kind
    while not is_settled_table(plan, result):
        result = sort_lines(plan, result, coming)
        coming = other_kind(coming)
        count += 1
    return count, result
