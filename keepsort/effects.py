"""Effects of words: what they do to all fillings of a plan."""

from keepsort.errors import TooManyCells
from keepsort.fillings import filling_of_marks
from keepsort.keeping import keeps
from keepsort.limits import SMALL
from keepsort.plans import check_plan, lines
from keepsort.sorting import check_word
from keepsort.turns import first_words, squeezed


def first_letters(word):
    """Return the word of the first R and the first C of the word, in their order."""
    result = ""
    for letter in word:
        if letter not in result:
            result += letter
    return result


def reduced(plan, word):
    """Return a short word with the same effect on the plan."""
    check_plan(plan)
    check_word(word)
    return first_letters(word) if keeps(plan) else squeezed(word)


def check_small(plan):
    """Raise InvalidPlan or TooManyCells unless the value is a plan whose effects can be compared."""
    check_plan(plan)
    if len(plan) > SMALL:
        raise TooManyCells(len(plan))


def all_signs(size):
    """Return an integer for each of so many cells, whose bits are the cell's signs in all tables of signs.

    Bit `number` is the sign in the table whose signs are the bits of `number`.
    A sort does to the signs of a filling, for any limit, what it does to the
    filling. So words have the same effect if they turn all tables of signs
    into the same ones, and these tables fit into one integer for each cell.
    """
    tables = [0] * size
    for number in range(1 << size):
        for index in range(size):
            tables[index] |= ((number >> index) & 1) << number
    return tuple(tables)


def sorted_signs(groups, tables):
    """Return all tables of signs after their signs are put in order along each of these lines."""
    result = list(tables)
    for line in groups:
        for end in range(len(line), 1, -1):
            for one, other in zip(line[:end - 1], line[1:end]):
                low = result[one] & result[other]
                result[other] = result[one] | result[other]
                result[one] = low
    return tuple(result)


def effect(plan, word):
    """Return all tables of signs after the word; words have the same effect if these are equal."""
    groups = {"R": lines(plan, "R"), "C": lines(plan, "C")}
    tables = all_signs(len(plan))
    for letter in squeezed(word):
        tables = sorted_signs(groups[letter], tables)
    return tables


def check_words(plan, word, other):
    """Raise the errors of two words whose effects are to be compared."""
    check_small(plan)
    check_word(word)
    check_word(other)


def same(plan, word, other):
    """Tell whether the words have the same effect on the plan."""
    check_words(plan, word, other)
    return effect(plan, word) == effect(plan, other)


def difference(plan, word, other):
    """Return a filling that the words turn into different fillings, None if there is none."""
    check_words(plan, word, other)
    for one, two in zip(effect(plan, word), effect(plan, other)):
        apart = one ^ two
        if apart != 0:
            number = apart.bit_length() - 1
            return filling_of_marks([(number >> index) & 1 == 1 for index in range(len(plan))])
    return None


def effects(plan):
    """Return the first word of each effect that words have on the plan, in the order of words."""
    check_small(plan)
    groups = {"R": lines(plan, "R"), "C": lines(plan, "C")}
    pairs = first_words(all_signs(len(plan)), lambda tables, kind: sorted_signs(groups[kind], tables))
    return tuple([word for word, tables in pairs])
