"""The written forms of programs and of tables."""

from keepsort.errors import InvalidText
from keepsort.fillings import check_filling, is_filling
from keepsort.limits import MOST_TIMES, MOST_VALUE
from keepsort.plans import check_plan, is_plan
from keepsort.programs import check_program, is_program


def read_number(text, digits):
    """Return the number in decimal with at most so many digits and no leading zeros, None for another text."""
    # The length comes first because Python refuses to read numbers of thousands of digits.
    if len(text) > digits or not text.isdecimal():
        return None
    number = int(text)
    return number if str(number) == text else None


def written_step(step):
    """Return the written form of a step, without a check."""
    if isinstance(step, str):
        return step
    return " ".join(["("] + [written_step(inner) for inner in step[2]] + [f")x{step[1]}"])


def read_program(words):
    """Return the nested tuples that the words stand for, None if the brackets do not match."""
    levels = [[]]
    for word in words:
        if word == "(":
            levels.append([])
        elif word.startswith(")x"):
            if len(levels) == 1:
                return None
            inner = tuple(levels.pop())
            levels[-1].append(("repeat", read_number(word[2:], len(str(MOST_TIMES))), inner))
        else:
            levels[-1].append(word)
    return tuple(levels[0]) if len(levels) == 1 else None


def format_program(program):
    """Return the written form of the program."""
    check_program(program)
    return " ".join([written_step(step) for step in program])


def parse_program(text):
    """Return the program whose written form is the text."""
    if not isinstance(text, str):
        raise InvalidText(text)
    program = read_program(text.split(" ") if text != "" else [])
    # A space too many gives an empty word, which is no step, so nothing else is left to check.
    if not is_program(program):
        raise InvalidText(text)
    return program


def format_table(plan, filling):
    """Return the written form of the table."""
    check_plan(plan)
    check_filling(len(plan), filling)
    values = {cell: str(value) for cell, value in zip(plan, filling)}
    height = max([row for row, column in plan]) + 1
    width = max([column for row, column in plan]) + 1
    rows = [[values.get((row, column), ".") for column in range(width)] for row in range(height)]
    return "\n".join([" ".join(words) for words in rows])


def read_table(text):
    """Return the cells that have numbers in the text, and these numbers."""
    cells = []
    values = []
    for row, line in enumerate(text.split("\n")):
        for column, word in enumerate(line.split(" ")):
            value = read_number(word, len(str(MOST_VALUE)))
            if value is not None:
                cells.append((row, column))
                values.append(value)
    return tuple(cells), tuple(values)


def parse_table(text):
    """Return the pair of the plan and the filling whose written form is the text."""
    if not isinstance(text, str):
        raise InvalidText(text)
    plan, filling = read_table(text)
    # The reading passes over whatever is no number; what is written as the text was read rightly.
    if not is_plan(plan) or not is_filling(plan, filling) or format_table(plan, filling) != text:
        raise InvalidText(text)
    return plan, filling
