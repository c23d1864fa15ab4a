"""Programs: sorts one after another, with repeats."""

from keepsort.errors import InvalidProgram
from keepsort.fillings import check_filling
from keepsort.limits import MOST_LETTERS, MOST_TIMES
from keepsort.plans import check_plan, is_between
from keepsort.sorting import after, is_word
from keepsort.turns import squeezed

MOST_STEPS = 60
MOST_NESTED = 5


def is_repeat(value):
    """Tell whether the value is a repeat of some tuple, which may be a program or not."""
    if not isinstance(value, tuple) or len(value) != 3 or value[0] != "repeat":
        return False
    return is_between(value[1], 1, MOST_TIMES) and isinstance(value[2], tuple)


def count_steps(step, depth, room):
    """Return the number of steps in a step of a program at this depth, None if it is none or has more than `room`."""
    if room < 1:
        return None
    if isinstance(step, str):
        return 1 if step != "" and is_word(step) else None
    if depth == MOST_NESTED or not is_repeat(step):
        return None
    count = 1
    for inner in step[2]:
        more = count_steps(inner, depth + 1, room - count)
        if more is None:
            return None
        count += more
    return count


def check_program(program):
    """Raise InvalidProgram unless the value is a program."""
    if not isinstance(program, tuple):
        raise InvalidProgram(None)
    room = MOST_STEPS
    for index, step in enumerate(program):
        count = count_steps(step, 1, room)
        if count is None:
            raise InvalidProgram(index)
        room -= count


def is_program(value):
    """Tell whether the value, which may be any, is a program."""
    try:
        check_program(value)
    except InvalidProgram:
        return False
    return True


def count_sorts(program):
    """Return the numbers of sorts of kind R and of kind C, without a check of the program."""
    rows = 0
    columns = 0
    for step in program:
        if isinstance(step, str):
            rows += step.count("R")
            columns += step.count("C")
        else:
            inner_rows, inner_columns = count_sorts(step[2])
            rows += step[1] * inner_rows
            columns += step[1] * inner_columns
    return rows, columns


def count_operations(program):
    """Return the pair of the number of sorts of kind R and the number of sorts of kind C."""
    check_program(program)
    return count_sorts(program)


def repeated(word, times):
    """Return so many copies of a squeezed word, or as many as there are any use of."""
    if len(word) < 2:
        return word
    # At most one letter of each copy is lost when the copies are squeezed.
    enough = MOST_LETTERS // (len(word) - 1) + 1
    return word * min(times, enough)


def flat_word(program):
    """Return a word that does to every table what the program does.

    Fewer than MOST_LETTERS sorts in turns settle every table, so no further
    letters are needed.
    """
    word = ""
    for step in program:
        part = step if isinstance(step, str) else repeated(flat_word(step[2]), step[1])
        word = squeezed(word + part)[:MOST_LETTERS]
    return word


def run(plan, filling, program):
    """Return the filling after the program."""
    check_plan(plan)
    check_filling(len(plan), filling)
    check_program(program)
    return after(plan, filling, flat_word(program))
