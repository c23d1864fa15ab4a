"""Rectangles: their settled ranked tables in order, and the tables from which a table results."""

from keepsort.errors import InvalidNumber, InvalidTable, InvalidWord
from keepsort.fillings import first_fault
from keepsort.limits import MOST_CELLS
from keepsort.plans import is_between, is_whole


def check_rectangle(rows, columns):
    """Raise InvalidNumber unless there is such a rectangle."""
    if not is_between(rows, 1, MOST_CELLS):
        raise InvalidNumber(rows)
    if not is_between(columns, 1, MOST_CELLS) or rows * columns > MOST_CELLS:
        raise InvalidNumber(columns)


def check_table(size, table):
    """Raise InvalidTable unless the value is a ranked table with so many places."""
    if not isinstance(table, tuple) or len(table) != size:
        raise InvalidTable(None)
    index = first_fault(table, size)
    if index is not None:
        raise InvalidTable(index)


def check_short_word(word):
    """Raise InvalidWord unless the value is one of the four words whose origins are counted."""
    if not isinstance(word, str) or word not in ("R", "C", "RC", "CR"):
        raise InvalidWord(None)


def row_tuples(columns, table):
    """Return the rows of the table."""
    return [table[start:start + columns] for start in range(0, len(table), columns)]


def column_tuples(columns, table):
    """Return the columns of the table."""
    return [table[start::columns] for start in range(columns)]


def all_ascend(groups):
    """Tell whether the values ascend in each of these lines."""
    return all([tuple(sorted(line)) == line for line in groups])


def is_settled_rectangle(columns, table):
    """Tell whether the values ascend in all rows and columns."""
    return all_ascend(row_tuples(columns, table)) and all_ascend(column_tuples(columns, table))


def fitting_steps(columns, counts, bounds):
    """Return the new counts for each way to put the next value into a row.

    The counts tell how many places of each row are taken, from the left. A row
    never gets ahead of the row above it, so that the columns ascend too.
    """
    value = sum(counts) + 1
    found = []
    for row, count in enumerate(counts):
        place = row * columns + count
        if count < columns and (row == 0 or counts[row - 1] > count):
            least, most = bounds[place]
            if least <= value <= most:
                found.append(counts[:row] + (count + 1,) + counts[row + 1:])
    return found


def count_within(rows, columns, bounds):
    """Return the number of settled tables with each value within the pair of bounds for its place.

    The values are put in one after another. How many ways lead on from there
    depends only on how many places of each row are taken.
    """
    ways = {(0,) * rows: 1}
    for value in range(rows * columns):
        coming = {}
        for counts, many in ways.items():
            for more in fitting_steps(columns, counts, bounds):
                coming[more] = coming.get(more, 0) + many
        ways = coming
    return sum([many for counts, many in ways.items()])


def count_with_start(rows, columns, start, bound):
    """Return the number of settled tables that begin with these values and have the next one within the bounds."""
    size = rows * columns
    bounds = [(value, value) for value in start] + [bound] + [(1, size)] * (size - len(start) - 1)
    return count_within(rows, columns, bounds)


def count_sorted(rows, columns):
    """Return the number of settled ranked tables of the rectangle."""
    check_rectangle(rows, columns)
    return count_within(rows, columns, [(1, rows * columns)] * (rows * columns))


def sorted_at(rows, columns, number):
    """Return the settled ranked table with this number, from 0, in ascending order."""
    check_rectangle(rows, columns)
    if not is_between(number, 0, count_sorted(rows, columns) - 1):
        raise InvalidNumber(number)
    start = ()
    left = number
    while len(start) < rows * columns:
        value = 1
        many = count_with_start(rows, columns, start, (value, value))
        while many <= left:
            left -= many
            value += 1
            many = count_with_start(rows, columns, start, (value, value))
        start += (value,)
    return start


def number_of(rows, columns, table):
    """Return the number of the table among the settled ones, None if it is not settled."""
    check_rectangle(rows, columns)
    check_table(rows * columns, table)
    if not is_settled_rectangle(columns, table):
        return None
    smaller = [count_with_start(rows, columns, table[:place], (1, value - 1)) for place, value in enumerate(table)]
    return sum(smaller)


def factorial(number):
    """Return the number of orders of so many things."""
    result = 1
    for factor in range(2, number + 1):
        result *= factor
    return result


def count_pairings(line, following):
    """Return in how many ways each value of a line gets a greater one of its own in the following line.

    From the greatest value on, all partners that are taken already are
    partners that the present value could have had.
    """
    result = 1
    for taken, value in enumerate(line[::-1]):
        result *= len([each for each in following if each > value]) - taken
    return result


def count_shuffles(groups):
    """Return in how many ways the values of each line can change places so that they ascend across the lines."""
    result = factorial(len(groups[0]))
    for line, following in zip(groups[:-1], groups[1:]):
        result *= count_pairings(line, following)
    return result


def count_origins(rows, columns, table, word):
    """Return the number of ranked tables that the word turns into the table."""
    check_rectangle(rows, columns)
    check_table(rows * columns, table)
    check_short_word(word)
    first, second = row_tuples(columns, table), column_tuples(columns, table)
    if word[0] == "C":
        first, second = second, first
    # A rectangle keeps, so what was sorted first is still sorted at the end.
    if not all_ascend(first) or (len(word) == 2 and not all_ascend(second)):
        return 0
    result = count_shuffles(second) if len(word) == 2 else 1
    for line in first:
        result *= factorial(len(line))
    return result


def chance(rows, columns, table, word):
    """Return the chance, in lowest terms, that the word turns a random ranked table into the table."""
    top = count_origins(rows, columns, table, word)
    bottom = factorial(rows * columns)
    divisor, remainder = bottom, top
    while remainder != 0:
        divisor, remainder = remainder, divisor % remainder
    return top // divisor, bottom // divisor


def in_last_rows(rows, columns, table, limit, count):
    """Return how many values of at least the limit the last `count` rows of the table contain."""
    check_rectangle(rows, columns)
    check_table(rows * columns, table)
    if not is_whole(limit):
        raise InvalidNumber(limit)
    if not is_between(count, 0, rows):
        raise InvalidNumber(count)
    return len([value for value in table[(rows - count) * columns:] if value >= limit])
