"""Sorts of the rows and the columns of a table, and records of such sorts.

What is said of records stands here because the checker rests on this module
but not on the observations.
"""

from keepsort.errors import InvalidRecord, InvalidWord
from keepsort.fillings import check_filling, is_name_table
from keepsort.limits import MOST_LETTERS
from keepsort.plans import check_kind, check_plan, is_between, is_kind, is_plan, lines

MOST_NAMES = 12
MOST_RECORDS = 20


def check_letters(word, letters):
    """Raise InvalidWord unless the value is a string of these letters that is not too long."""
    if not isinstance(word, str) or len(word) > MOST_LETTERS:
        raise InvalidWord(None)
    for index, letter in enumerate(word):
        if letter not in letters:
            raise InvalidWord(index)


def check_word(word):
    """Raise InvalidWord unless the value is a word."""
    check_letters(word, "RC")


def is_word(value):
    """Tell whether the value, which may be any, is a word."""
    try:
        check_word(value)
    except InvalidWord:
        return False
    return True


def other_kind(kind):
    """Return the kind that is not this one."""
    return "C" if kind == "R" else "R"


def sorted_along(groups, filling):
    """Return the filling with its values in ascending order along each of these lines."""
    result = list(filling)
    for line in groups:
        values = sorted([filling[index] for index in line])
        for index, value in zip(line, values):
            result[index] = value
    return tuple(result)


def sort_lines(plan, filling, kind):
    """Return the filling after a sort of this kind."""
    check_plan(plan)
    check_filling(len(plan), filling)
    return sorted_along(lines(plan, kind), filling)


def after(plan, filling, word):
    """Return the filling after the sorts of the word, from left to right."""
    check_plan(plan)
    check_filling(len(plan), filling)
    check_word(word)
    groups = {"R": lines(plan, "R"), "C": lines(plan, "C")}
    result = filling
    for letter in word:
        result = sorted_along(groups[letter], result)
    return result


def is_sorted(plan, filling, kind):
    """Tell whether the values ascend in each line of this kind."""
    return sort_lines(plan, filling, kind) == filling


def is_settled_table(plan, filling):
    """Tell whether the table is sorted for both kinds."""
    return is_sorted(plan, filling, "R") and is_sorted(plan, filling, "C")


def rest(plan, filling, kind):
    """Return how many sorts in turns settle the table, the first one of this kind, and the filling then."""
    check_plan(plan)
    check_filling(len(plan), filling)
    check_kind(kind)
    count = 0
    result = filling
    coming = kind
    while not is_settled_table(plan, result):
        result = sort_lines(plan, result, coming)
        coming = other_kind(coming)
        count += 1
    return count, result


def is_record(value):
    """Tell whether the value, which may be any, is a record."""
    if not isinstance(value, tuple) or len(value) != 4 or not is_plan(value[0]) or not is_kind(value[2]):
        return False
    size = len(value[0])
    if not is_between(size, 2, MOST_NAMES) or not is_name_table(size, value[1]) or not is_name_table(size, value[3]):
        return False
    return sorted(value[1]) == sorted(value[3])


def check_records(records):
    """Raise InvalidRecord unless the value is a tuple of records with the same names."""
    if not isinstance(records, tuple) or not 1 <= len(records) <= MOST_RECORDS:
        raise InvalidRecord(None)
    for index, record in enumerate(records):
        if not is_record(record) or sorted(record[1]) != sorted(records[0][1]):
            raise InvalidRecord(index)


def are_records(value):
    """Tell whether the value, which may be any, is a tuple of records with the same names."""
    try:
        check_records(value)
    except InvalidRecord:
        return False
    return True


def seen_pairs(record):
    """Return the pairs of names, the smaller one first, that stand side by side in a line after the sort of the record.

    Returns None if a line has other names after the sort than before, which
    no order explains.
    """
    plan, before, kind, result = record
    pairs = []
    for line in lines(plan, kind):
        names = [result[index] for index in line]
        if sorted(names) != sorted([before[index] for index in line]):
            return None
        pairs += list(zip(names[:-1], names[1:]))
    return pairs
