"""A console keeps a sheet that is spoken to in lines."""

from keepsort.errors import InvalidCommand, InvalidText, OtherValues
from keepsort.keeping import keeps
from keepsort.notation import parse_program, read_number
from keepsort.reach import word_to
from keepsort.sheet import Sheet

MOST_DIGITS = 30


def yes_or_no(truth):
    """Return the answer to a question."""
    return "yes" if truth else "no"


def answer_set(sheet, numbers):
    """Put a value into a cell."""
    row, column, value = numbers
    sheet.set_value((row, column), value)
    return "ok"


def answer_swap(sheet, numbers):
    """Exchange the values of two cells."""
    row, column, other_row, other_column = numbers
    sheet.swap((row, column), (other_row, other_column))
    return "ok"


def answer_undo(sheet, numbers):
    """Take back the last edit."""
    sheet.undo()
    return "ok"


def answer_table(sheet, numbers):
    """Tell the table."""
    return str(sheet)


def answer_value(sheet, numbers):
    """Tell the value of a cell."""
    row, column = numbers
    return str(sheet.value_at((row, column)))


def answer_settled(sheet, numbers):
    """Tell whether the table is settled."""
    return yes_or_no(sheet.is_settled())


def answer_edits(sheet, numbers):
    """Tell the number of edits."""
    return str(len(sheet.log()))


def answer_keeps(sheet, numbers):
    """Tell whether the plan keeps."""
    return yes_or_no(keeps(sheet.plan()))


def answer_word(sheet, numbers):
    """Tell the first word that leads to a filling."""
    if sorted(numbers) != sorted(sheet.filling()):
        raise OtherValues()
    word = word_to(sheet.plan(), sheet.filling(), tuple(numbers))
    if word is None:
        return "never"
    return "-" if word == "" else word


# The commands that take nothing but numbers: how many there are, None for one or more, and what answers them.
COMMANDS = {
    "set": (3, answer_set),
    "swap": (4, answer_swap),
    "undo": (0, answer_undo),
    "table": (0, answer_table),
    "value": (2, answer_value),
    "settled": (0, answer_settled),
    "edits": (0, answer_edits),
    "keeps": (0, answer_keeps),
    "word": (None, answer_word),
}


def read_steps(line):
    """Return the program of a line whose first word is `arrange`."""
    if line == "arrange":
        return ()
    try:
        program = parse_program(line.removeprefix("arrange "))
    except InvalidText:
        raise InvalidCommand(line)
    if len(program) == 0:
        raise InvalidCommand(line)
    return program


def read_numbers(line, words, count):
    """Return the numbers that these words of the line stand for."""
    numbers = [read_number(word, MOST_DIGITS) for word in words]
    fits = len(numbers) > 0 if count is None else len(numbers) == count
    if None in numbers or not fits:
        raise InvalidCommand(line)
    return numbers


class Console:
    """A sheet that performs commands."""

    def __init__(self, plan, filling):
        self.sheet = Sheet(plan, filling)

    def say(self, line):
        """Perform a command and return its answer."""
        if not isinstance(line, str):
            raise InvalidCommand(line)
        words = line.split(" ")
        if words[0] == "arrange":
            self.sheet.arrange(read_steps(line))
            return "ok"
        if words[0] not in COMMANDS:
            raise InvalidCommand(line)
        count, answer = COMMANDS[words[0]]
        return answer(self.sheet, read_numbers(line, words[1:], count))
