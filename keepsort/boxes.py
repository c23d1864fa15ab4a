"""Boxes with up to three axes, and the effects of words on them."""

from keepsort.errors import InvalidKind, InvalidLengths, InvalidNumber
from keepsort.fillings import check_filling
from keepsort.limits import MOST_CELLS
from keepsort.plans import is_between
from keepsort.sorting import check_letters, sorted_along

AXES = "xyz"
MOST_LENGTH = 6

# Values that come out in different ways if they are sorted along one axis first or along the other one first.
TWISTED = ((1, 4), (3, 2))


def product(numbers):
    """Return the product of the numbers."""
    result = 1
    for number in numbers:
        result *= number
    return result


def check_lengths(lengths):
    """Raise InvalidLengths unless the value is the lengths of a box."""
    if not isinstance(lengths, tuple) or not 1 <= len(lengths) <= len(AXES):
        raise InvalidLengths(None)
    for index, length in enumerate(lengths):
        if not is_between(length, 1, MOST_LENGTH) or product(lengths[:index + 1]) > MOST_CELLS:
            raise InvalidLengths(index)


def box_letters(lengths):
    """Return the letters of all axes of the box, in alphabetical order."""
    names = AXES[:len(lengths)]
    return names.upper() + names


def check_box_word(lengths, word):
    """Raise InvalidWord unless the value is a box word of axes of the box."""
    check_letters(word, box_letters(lengths))


def coordinate(lengths, axis, place):
    """Return the coordinate of a place along the axis with this index."""
    return place // product(lengths[axis + 1:]) % lengths[axis]


def box_lines(lengths, letter):
    """Return the lines along the axis of the letter, each in the direction in which its values are to ascend."""
    axis = AXES.index(letter.lower())
    step = product(lengths[axis + 1:])
    starts = [place for place in range(product(lengths)) if coordinate(lengths, axis, place) == 0]
    found = [[start + step * at for at in range(lengths[axis])] for start in starts]
    return found if letter.islower() else [line[::-1] for line in found]


def sort_axis(lengths, filling, letter):
    """Return the filling after a sort by the letter."""
    check_lengths(lengths)
    check_filling(product(lengths), filling)
    if not isinstance(letter, str) or letter not in list(box_letters(lengths)):
        raise InvalidKind(letter)
    return sorted_along(box_lines(lengths, letter), filling)


def box_after(lengths, filling, word):
    """Return the filling after the sorts of the word, from left to right."""
    check_lengths(lengths)
    check_filling(product(lengths), filling)
    check_box_word(lengths, word)
    groups = {letter: box_lines(lengths, letter) for letter in box_letters(lengths)}
    result = filling
    for letter in word:
        result = sorted_along(groups[letter], result)
    return result


def box_normal(lengths, word):
    """Return the short word with the same effect: each axis once, where it stands first and as it stands last."""
    check_lengths(lengths)
    check_box_word(lengths, word)
    last = {}
    # A dict keeps the place of a key that is set again.
    for letter in word:
        if lengths[AXES.index(letter.lower())] > 1:
            last[letter.lower()] = letter
    return "".join([last[name] for name in last])


def box_same(lengths, word, other):
    """Tell whether the words turn every filling of the box into the same filling."""
    one = box_normal(lengths, word)
    return one == box_normal(lengths, other)


def ranks_of(keys):
    """Return the filling whose values have the order of these keys, one for each place."""
    ordered = sorted(keys)
    return tuple([ordered.index(key) + 1 for key in keys])


def turned_coordinates(lengths, letters, place):
    """Return the coordinates of a place, counted from the far end along axes whose letter is uppercase."""
    result = []
    for axis, length in enumerate(lengths):
        at = coordinate(lengths, axis, place)
        result.append(length - 1 - at if AXES[axis].upper() in letters else at)
    return result


def standing_filling(lengths, letters):
    """Return a filling that no sort by one of these letters changes."""
    return ranks_of([turned_coordinates(lengths, letters, place) for place in range(product(lengths))])


def twisted_key(lengths, letters, axes, place):
    """Return what the value of a place depends on in a twisted filling."""
    at = turned_coordinates(lengths, letters, place)
    one, other = [at[axis] for axis in axes]
    key = [at[axis] for axis in range(len(lengths)) if axis not in axes]
    if one < 2 and other < 2:
        return key + [0, TWISTED[one][other]]
    return key + [1, one, other]


def twisted_filling(lengths, letters, one, other):
    """Return a filling for which it matters which of the letters `one` and `other` comes first.

    In each layer along these two axes, the four places of the corner have the
    least values, twisted, and all other values ascend. So only the corner
    changes. The layers follow one another, so a sort along the third axis by
    one of the letters changes nothing.
    """
    axes = [AXES.index(letter.lower()) for letter in (one, other)]
    return ranks_of([twisted_key(lengths, letters, axes, place) for place in range(product(lengths))])


def box_difference(lengths, word, other):
    """Return a filling that the words turn into different fillings, None if there is none."""
    one = box_normal(lengths, word)
    two = box_normal(lengths, other)
    for changing, idle in ((one, two), (two, one)):
        for letter in changing:
            if letter not in idle:
                # The idle word changes nothing, the other one turns the values along this axis round.
                return standing_filling(lengths, idle + letter.swapcase())
    for first, second in zip(one, two):
        if first != second:
            return twisted_filling(lengths, one, first, second)
    return None


def normal_words(lengths):
    """Return all results of `box_normal` for the box, in their order."""
    letters = [letter for letter in box_letters(lengths) if lengths[AXES.index(letter.lower())] > 1]
    found = [""]
    longest = [""]
    while longest:
        longest = [word + letter for word in longest for letter in letters if letter.lower() not in word.lower()]
        found += longest
    return found


def box_effects(lengths):
    """Return the number of different effects of words on the fillings of the box."""
    check_lengths(lengths)
    return len(normal_words(lengths))


def box_word_at(lengths, number):
    """Return the normal word with this number, from 0."""
    check_lengths(lengths)
    words = normal_words(lengths)
    if not is_between(number, 0, len(words) - 1):
        raise InvalidNumber(number)
    return words[number]


def box_number_of(lengths, word):
    """Return the number of the normal word that has the effect of this word."""
    normal = box_normal(lengths, word)
    return normal_words(lengths).index(normal)
