"""A sheet keeps a table, its edits and a log of them."""

from keepsort.errors import (FindError, InvalidCell, InvalidEdit, InvalidValue, LimitError, NothingToUndo, SortError,
                             TooManyEdits, ValueTaken)
from keepsort.fillings import check_filling
from keepsort.limits import MOST_EDITS, MOST_VALUE
from keepsort.notation import format_table
from keepsort.plans import check_plan, is_between, is_cell
from keepsort.programs import run
from keepsort.sorting import is_settled_table

# The first element of each form of edit, with the number of elements.
EDIT_FORMS = (("arrange", 2), ("set", 3), ("swap", 3))


def index_of_cell(plan, cell):
    """Return the index of the cell in the plan, or raise InvalidCell."""
    # A cell with True in it would be found in place of one with 1.
    if not is_cell(cell) or cell not in plan:
        raise InvalidCell(cell)
    return plan.index(cell)


def with_value(plan, filling, cell, value):
    """Return the filling with this value in the cell."""
    at = index_of_cell(plan, cell)
    if not is_between(value, 1, MOST_VALUE):
        raise InvalidValue(value)
    if value in filling[:at] + filling[at + 1:]:
        raise ValueTaken(value)
    return filling[:at] + (value,) + filling[at + 1:]


def with_swap(plan, filling, cell, other):
    """Return the filling with the values of the two cells exchanged."""
    one = index_of_cell(plan, cell)
    two = index_of_cell(plan, other)
    result = list(filling)
    result[one], result[two] = filling[two], filling[one]
    return tuple(result)


def edited(plan, filling, edit):
    """Return the filling after the edit, which has one of the forms of edits."""
    if edit[0] == "arrange":
        return run(plan, filling, edit[1])
    if edit[0] == "set":
        return with_value(plan, filling, edit[1], edit[2])
    return with_swap(plan, filling, edit[1], edit[2])


def has_edit_form(value):
    """Tell whether the value, which may be any, begins like an edit and has as many elements."""
    return isinstance(value, tuple) and len(value) > 0 and (value[0], len(value)) in EDIT_FORMS


def check_edits(edits):
    """Raise InvalidEdit unless the value is a tuple of what has the form of edits."""
    if not isinstance(edits, tuple):
        raise InvalidEdit(None)
    for index, edit in enumerate(edits):
        if not has_edit_form(edit):
            raise InvalidEdit(index)


class Sheet:
    """A table with a log of its edits, each of which can be taken back."""

    def __init__(self, plan, filling):
        check_plan(plan)
        check_filling(len(plan), filling)
        self.cells = plan
        self.numbers = filling
        # Pairs of an edit and the filling before it. As a tuple it is never changed, only replaced.
        self.past = ()
        self.busy = False

    def perform(self, edit):
        """Perform an edit that has one of the forms of edits."""
        numbers = edited(self.cells, self.numbers, edit)
        if len(self.past) >= MOST_EDITS:
            raise TooManyEdits(MOST_EDITS)
        self.past = self.past + ((edit, self.numbers),)
        self.numbers = numbers

    def arrange(self, program):
        """Let the table go through the program."""
        self.perform(("arrange", program))

    def set_value(self, cell, value):
        """Put the value into the cell."""
        self.perform(("set", cell, value))

    def swap(self, cell, other):
        """Exchange the values of two cells."""
        self.perform(("swap", cell, other))

    def do_all(self, edits, *, watch=None):
        """Perform all edits, or none if an error is raised, and call `watch` after each of them."""
        check_edits(edits)
        numbers = self.numbers
        past = self.past
        was_busy = self.busy
        finished = None
        self.busy = True
        # An exception of `watch` may be any, so only a `finally` sees them all.
        try:
            for index, edit in enumerate(edits):
                self.perform(edit)
                if watch is not None:
                    watch(self, index)
            finished = True
        finally:
            self.busy = was_busy
            if finished is None:
                self.numbers, self.past = numbers, past

    def undo(self):
        """Take back the last edit."""
        if len(self.past) == 0:
            raise NothingToUndo()
        self.numbers = self.past[-1][1]
        self.past = self.past[:-1]

    def plan(self):
        """Return the plan."""
        return self.cells

    def filling(self):
        """Return the present filling."""
        return self.numbers

    def log(self):
        """Return the edits, from the first to the last."""
        return tuple([edit for edit, numbers in self.past])

    def value_at(self, cell):
        """Return the value of the cell."""
        return self.numbers[index_of_cell(self.cells, cell)]

    def is_settled(self):
        """Tell whether the table is sorted for both kinds."""
        return is_settled_table(self.cells, self.numbers)

    def __len__(self):
        return len(self.cells)

    def __eq__(self, other):
        return isinstance(other, Sheet) and self.cells == other.cells and self.numbers == other.numbers

    def __str__(self):
        return str(format_table(self.cells, self.numbers))

    def __repr__(self):
        return f"Sheet({len(self.cells)})"


def replay(plan, filling, log):
    """Return a sheet with this table in which the edits of the log were performed."""
    sheet = Sheet(plan, filling)
    if not isinstance(log, tuple):
        raise InvalidEdit(None)
    for index, edit in enumerate(log):
        try:
            sheet.do_all((edit,))
        except (SortError, FindError, LimitError):
            raise InvalidEdit(index)
    return sheet
