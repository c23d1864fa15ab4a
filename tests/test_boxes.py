import itertools
import math
import random
import unittest

from keepsort.boxes import (box_after, box_difference, box_effects, box_normal, box_number_of, box_same, box_word_at,
                            sort_axis)
from keepsort.errors import InvalidFilling, InvalidKind, InvalidLengths, InvalidNumber, InvalidWord
from samples import ALL_FILLING_FAULTS, BAD_NUMBERS, raised, what

ALL_LENGTHS = [lengths for count in (1, 2, 3) for lengths in itertools.product(range(1, 7), repeat=count)
               if math.prod(lengths) <= 24]
SOME_LENGTHS = ((1,), (2,), (6,), (1, 1), (1, 5), (4, 1), (2, 2), (3, 4), (4, 6), (6, 4), (1, 1, 1), (2, 1, 3),
                (1, 4, 1), (1, 3, 2), (4, 2, 1), (2, 2, 2), (2, 3, 4), (4, 3, 2), (2, 2, 6), (6, 2, 2), (3, 2, 3))

# Tuples of one to three elements that are no lengths, with the index of the fault.
LENGTH_FAULTS = (
    ((0,), 0),
    ((7,), 0),
    ((-1,), 0),
    ((True,), 0),
    ((False,), 0),
    ((None,), 0),
    (("2",), 0),
    (((2,),), 0),
    (([2],), 0),
    ((b"2",), 0),
    (({},), 0),
    ((10 ** 59,), 0),
    ((2, 0), 1),
    ((2, 7), 1),
    ((2, True), 1),
    ((True, 2), 0),
    ((2, None), 1),
    ((2, "2"), 1),
    ((7, 7), 0),
    ((0, 0), 0),
    ((5, 5), 1),
    ((6, 5), 1),
    ((6, 6), 1),
    ((5, 5, 0), 1),
    ((5, 5, 1), 1),
    ((0, 5, 5), 0),
    ((2, 0, 2), 1),
    ((2, 2, 0), 2),
    ((2, 2, 7), 2),
    ((2, 2, True), 2),
    ((2, 2, (2,)), 2),
    ((3, 3, 3), 2),
    ((4, 6, 2), 2),
    ((2, 3, 5), 2),
    ((6, 4, 2), 2),
    ((1, 5, 5), 2),
    ((1, 6, 5), 2),
    ((6, 6, "x"), 1),
)

# Values that are no lengths, for which the index is None, whatever their elements are.
NO_LENGTHS = ((), (1, 1, 1, 1), (0, 0, 0, 0), (True,) * 4, (None,) * 5, (6,) * 30, [2, 2], [], [0], "22", "", b"\x02",
              None, True, False, 0, 2, 10 ** 59, {}, {2: 2}, {2}, range(1, 3), object())

ALL_LENGTH_FAULTS = LENGTH_FAULTS + tuple((value, None) for value in NO_LENGTHS)

# Values that are no box words for two axes, with the index of the first other character.
BOX_WORD_FAULTS = (
    ("z", 0),
    ("Z", 0),
    ("xyz", 2),
    ("xYZx", 2),
    ("x y", 1),
    (" x", 0),
    ("x\n", 1),
    ("R", 0),
    ("xyC", 2),
    ("a", 0),
    ("x" * 399 + "z", 399),
    ("z" * 400, 0),
    ("x" * 401, None),
    ("xy" * 201, None),
    ("z" * 401, None),
    ("x" * 400 + "z", None),
    ("Y" * 2000, None),
    (None, None),
    (True, None),
    (0, None),
    (10 ** 59, None),
    ((), None),
    (("x",), None),
    (["x", "y"], None),
    (b"xy", None),
    (b"", None),
    ({"x"}, None),
    ({"x": "y"}, None),
    (object(), None),
)

BAD_LETTERS = ("z", "Z", "", "xy", "xX", "yx", "x ", " x", "x\n", "R", "C", "a", "w", None, 0, 1, True, False, (),
               ("x",), ["x"], b"x", {"x"}, {"x": 1}, object())


def places(lengths):
    """The coordinates of all places, in the order of a filling."""
    return list(itertools.product(*[range(length) for length in lengths]))


def sort_box_by_hand(lengths, filling, letter):
    """A sort made from a dict of coordinates."""
    axis = "xyz".index(letter.lower())
    values = dict(zip(places(lengths), filling))
    for start in places(lengths):
        if start[axis] == 0:
            line = [start[:axis] + (at,) + start[axis + 1:] for at in range(lengths[axis])]
            ordered = sorted((values[place] for place in line), reverse=letter.isupper())
            values.update(zip(line, ordered))
    return tuple(values[place] for place in places(lengths))


def box_after_by_hand(lengths, filling, word):
    for letter in word:
        filling = sort_box_by_hand(lengths, filling, letter)
    return filling


def letters_of(lengths):
    return "xyz"[:len(lengths)] + "XYZ"[:len(lengths)]


def all_normal_words(lengths):
    """All words with each axis of length 2 or more at most once, in the order of the document."""
    axes = [axis for axis, length in zip("xyz", lengths) if length > 1]
    found = []
    for count in range(len(axes) + 1):
        for chosen in itertools.permutations(axes, count):
            for word in itertools.product(*[(axis, axis.upper()) for axis in chosen]):
                found.append("".join(word))
    return sorted(found, key=lambda word: (len(word), word))


def normal_by_hand(lengths, word):
    first = sorted({letter.lower() for letter in word}, key=word.lower().index)
    last = [word[word.lower().rindex(axis)] for axis in first]
    return "".join(letter for letter in last if lengths["xyz".index(letter.lower())] > 1)


def drawn_box_filling(draw, lengths):
    size = math.prod(lengths)
    return tuple(draw.sample(range(1, draw.choice((size, 2 * size, 9999)) + 1), size))


def drawn_box_word(draw, lengths, most):
    return "".join(draw.choice(letters_of(lengths)) for at in range(draw.randint(0, most)))


def all_box_fillings(lengths):
    return itertools.permutations(range(1, math.prod(lengths) + 1))


# The functions with their parameters, so that each error can be tried in each of them.
CALLS = (
    (sort_axis, ("lengths", "filling", "letter")),
    (box_after, ("lengths", "filling", "word")),
    (box_normal, ("lengths", "word")),
    (box_same, ("lengths", "word", "other")),
    (box_difference, ("lengths", "word", "other")),
    (box_effects, ("lengths",)),
    (box_word_at, ("lengths", "number")),
    (box_number_of, ("lengths", "word")),
)
GOOD = {"lengths": (2, 2), "filling": (1, 4, 3, 2), "letter": "y", "word": "yxYx", "other": "xy", "number": 3}
WRONG = {"filling": ((1, 2, 3), InvalidFilling), "letter": ("z", InvalidKind), "word": ("xyz", InvalidWord),
         "other": (None, InvalidWord), "number": (13, InvalidNumber)}


class SortAxisTest(unittest.TestCase):
    def test_example_of_the_document(self):
        found = [sort_axis((2, 2), (1, 4, 3, 2), "y"), sort_axis((2, 2), (1, 4, 3, 2), "X")]
        self.assertEqual(found, [(1, 4, 2, 3), (3, 4, 1, 2)])

    def test_example_of_the_document_that_raises(self):
        self.assertEqual(what(raised(sort_axis, (2, 2), (1, 4, 3, 2), "z")), (InvalidKind, {"kind": "z"}))

    def test_one_axis(self):
        self.assertEqual(sort_axis((4,), (3, 9999, 1, 2), "x"), (1, 2, 3, 9999))
        self.assertEqual(sort_axis((4,), (3, 9999, 1, 2), "X"), (9999, 3, 2, 1))

    def test_three_axes(self):
        filling = (8, 7, 6, 5, 4, 3, 2, 1)
        self.assertEqual(sort_axis((2, 2, 2), filling, "x"), (4, 3, 2, 1, 8, 7, 6, 5))
        self.assertEqual(sort_axis((2, 2, 2), filling, "y"), (6, 5, 8, 7, 2, 1, 4, 3))
        self.assertEqual(sort_axis((2, 2, 2), filling, "z"), (7, 8, 5, 6, 3, 4, 1, 2))
        for letter in "XYZ":
            self.assertEqual(sort_axis((2, 2, 2), filling, letter), filling)

    def test_against_sorts_by_hand(self):
        draw = random.Random(100)
        for lengths in ALL_LENGTHS:
            for at in range(3):
                filling = drawn_box_filling(draw, lengths)
                for letter in letters_of(lengths):
                    wanted = sort_box_by_hand(lengths, filling, letter)
                    self.assertEqual(sort_axis(lengths, filling, letter), wanted, (lengths, filling, letter))

    def test_axis_of_length_one(self):
        draw = random.Random(101)
        for lengths in ALL_LENGTHS:
            filling = drawn_box_filling(draw, lengths)
            for axis, length in zip("xyz", lengths):
                if length == 1:
                    self.assertEqual(sort_axis(lengths, filling, axis), filling)
                    self.assertEqual(sort_axis(lengths, filling, axis.upper()), filling)

    def test_result(self):
        self.assertIs(type(sort_axis((2, 2), (1, 4, 3, 2), "x")), tuple)

    def test_invalid_letter(self):
        for letter in BAD_LETTERS:
            with self.subTest(letter=letter):
                error = raised(sort_axis, (2, 2), (1, 4, 3, 2), letter)
                self.assertEqual(what(error), (InvalidKind, {"kind": letter}))

    def test_letters_of_axes_that_the_box_does_not_have(self):
        for lengths, filling, bad in (((2,), (2, 1), "yYzZ"), ((1, 2), (2, 1), "zZ"), ((2, 1), (2, 1), "zZ")):
            for letter in bad:
                error = raised(sort_axis, lengths, filling, letter)
                self.assertEqual(what(error), (InvalidKind, {"kind": letter}))
        for letter in "xyzXYZ":
            self.assertIsNone(raised(sort_axis, (1, 1, 2), (2, 1), letter))


class BoxAfterTest(unittest.TestCase):
    def test_example_of_the_document(self):
        found = [box_after((2, 2), (1, 4, 3, 2), "yx"), box_after((2, 2), (1, 4, 3, 2), "yXx")]
        self.assertEqual(found, [(1, 3, 2, 4), (1, 3, 2, 4)])

    def test_against_sorts_by_hand(self):
        draw = random.Random(110)
        for lengths in ALL_LENGTHS:
            for at in range(4):
                filling = drawn_box_filling(draw, lengths)
                word = drawn_box_word(draw, lengths, 8)
                wanted = box_after_by_hand(lengths, filling, word)
                self.assertEqual(box_after(lengths, filling, word), wanted, (lengths, filling, word))

    def test_no_letters(self):
        draw = random.Random(111)
        for lengths in SOME_LENGTHS:
            filling = drawn_box_filling(draw, lengths)
            self.assertEqual(box_after(lengths, filling, ""), filling)

    def test_words_of_400_letters(self):
        draw = random.Random(112)
        for lengths in ((6,), (4, 6), (2, 3, 4), (1, 1, 1)):
            filling = drawn_box_filling(draw, lengths)
            word = "".join(draw.choice(letters_of(lengths)) for at in range(400))
            self.assertEqual(box_after(lengths, filling, word), box_after_by_hand(lengths, filling, word))

    def test_one_letter_is_a_sort(self):
        draw = random.Random(113)
        for lengths in SOME_LENGTHS:
            filling = drawn_box_filling(draw, lengths)
            for letter in letters_of(lengths):
                self.assertEqual(box_after(lengths, filling, letter), sort_axis(lengths, filling, letter))


class BoxNormalTest(unittest.TestCase):
    def test_example_of_the_document(self):
        self.assertEqual([box_normal((2, 2), "yxYx"), box_normal((2, 1), "yxY")], ["Yx", "x"])

    def test_against_its_description(self):
        draw = random.Random(120)
        for lengths in ALL_LENGTHS:
            for at in range(20):
                word = drawn_box_word(draw, lengths, 9)
                self.assertEqual(box_normal(lengths, word), normal_by_hand(lengths, word), (lengths, word))

    def test_all_short_words(self):
        for lengths in ((2, 2, 2), (2, 1, 3), (1, 1, 1), (6, 4), (1, 6), (5,)):
            for count in range(5):
                for letters in itertools.product(letters_of(lengths), repeat=count):
                    word = "".join(letters)
                    self.assertEqual(box_normal(lengths, word), normal_by_hand(lengths, word), (lengths, word))

    def test_it_has_the_same_effect(self):
        draw = random.Random(121)
        for lengths in ALL_LENGTHS:
            for at in range(6):
                filling = drawn_box_filling(draw, lengths)
                word = drawn_box_word(draw, lengths, 7)
                wanted = box_after_by_hand(lengths, filling, word)
                found = box_after_by_hand(lengths, filling, box_normal(lengths, word))
                self.assertEqual(found, wanted, (lengths, filling, word))

    def test_it_has_the_same_effect_on_all_fillings_of_small_boxes(self):
        for lengths in ((2, 2), (2, 3), (3, 2), (1, 2, 2), (5,)):
            for word in ("xx", "xX", "Xx", "xyx", "yxYx", "XyYxy", "yyxxYX"):
                word = "".join(letter for letter in word if letter in letters_of(lengths))
                for filling in all_box_fillings(lengths):
                    wanted = box_after_by_hand(lengths, filling, word)
                    self.assertEqual(box_after(lengths, filling, box_normal(lengths, word)), wanted)

    def test_normal_words_stay(self):
        for lengths in SOME_LENGTHS:
            for word in all_normal_words(lengths):
                self.assertEqual(box_normal(lengths, word), word)

    def test_long_words(self):
        self.assertEqual(box_normal((2, 3, 4), "z" + "xY" * 199 + "Z"), "ZxY")
        self.assertEqual(box_normal((1, 1, 1), "xyzX" * 100), "")


class BoxSameTest(unittest.TestCase):
    def test_example_of_the_document(self):
        self.assertEqual([box_same((2, 2), "yxYx", "Yx"), box_same((2, 2), "xy", "yx")], [True, False])

    def test_against_all_fillings_of_small_boxes(self):
        for lengths in ((1,), (3,), (1, 2), (2, 2), (5, 1), (2, 3), (1, 1, 1), (2, 1, 2), (1, 3, 2)):
            letters = letters_of(lengths)
            words = ["".join(word) for count in range(3) for word in itertools.product(letters, repeat=count)]
            words += ["xXx", "".join(letter for letter in "xyXy" if letter in letters)]
            fillings = list(all_box_fillings(lengths))
            effects = {word: [box_after_by_hand(lengths, filling, word) for filling in fillings] for word in words}
            for word, other in itertools.product(words, repeat=2):
                wanted = effects[word] == effects[other]
                self.assertIs(box_same(lengths, word, other), wanted, (lengths, word, other))

    def test_words_of_three_axes_differ(self):
        for lengths in ((2, 2, 2), (2, 3, 4)):
            words = all_normal_words(lengths)
            for word, other in itertools.product(words, repeat=2):
                self.assertIs(box_same(lengths, word, other), word == other)

    def test_axes_of_length_one_do_not_matter(self):
        self.assertIs(box_same((2, 1), "xy", "Yx"), True)
        self.assertIs(box_same((1, 1, 1), "xyz", ""), True)
        self.assertIs(box_same((1, 2, 2), "xyz", "zXy"), False)


class BoxDifferenceTest(unittest.TestCase):
    def check(self, lengths, word, other):
        filling = box_difference(lengths, word, other)
        if box_same(lengths, word, other):
            self.assertIsNone(filling, (lengths, word, other))
            return
        self.assertIs(type(filling), tuple)
        self.assertEqual(len(filling), math.prod(lengths))
        self.assertEqual(len(set(filling)), len(filling))
        self.assertTrue(all(type(value) is int and 1 <= value <= 9999 for value in filling), filling)
        one = box_after_by_hand(lengths, filling, word)
        self.assertNotEqual(one, box_after_by_hand(lengths, filling, other), (lengths, word, other))

    def test_example_of_the_document(self):
        filling = box_difference((2, 2), "xy", "yx")
        self.assertIs(box_after((2, 2), filling, "xy") == box_after((2, 2), filling, "yx"), False)
        self.assertIsNone(box_difference((2, 2), "xx", "x"))

    def test_all_pairs_of_normal_words(self):
        for lengths in ((1,), (2,), (6,), (1, 3), (2, 2), (2, 3), (5, 4), (1, 1, 1), (3, 1, 2), (2, 2, 2), (2, 3, 4)):
            for word, other in itertools.product(all_normal_words(lengths), repeat=2):
                self.check(lengths, word, other)

    def test_words_of_all_axes_in_all_orders(self):
        for lengths in ALL_LENGTHS:
            words = [word for word in all_normal_words(lengths) if word and len(word) == len(lengths)]
            for word, other in itertools.product(words[::5], words[::3]):
                self.check(lengths, word, other)

    def test_drawn_words(self):
        draw = random.Random(130)
        for lengths in ALL_LENGTHS:
            for at in range(15):
                self.check(lengths, drawn_box_word(draw, lengths, 6), drawn_box_word(draw, lengths, 6))
            word = drawn_box_word(draw, lengths, 200)
            self.check(lengths, word, word + drawn_box_word(draw, lengths, 200))


class BoxNumbersTest(unittest.TestCase):
    def test_examples_of_the_document(self):
        self.assertEqual([box_effects((2, 1)), box_effects((2, 3)), box_effects((2, 2, 2))], [3, 13, 79])
        self.assertEqual([box_word_at((2, 2), number) for number in (0, 1, 8)], ["", "X", "Yx"])
        self.assertEqual(box_number_of((2, 2), "yxYx"), 8)

    def test_against_all_normal_words(self):
        for lengths in ALL_LENGTHS:
            words = all_normal_words(lengths)
            self.assertEqual(box_effects(lengths), len(words), lengths)
            self.assertEqual([box_word_at(lengths, number) for number in range(len(words))], words, lengths)
            self.assertEqual([box_number_of(lengths, word) for word in words], list(range(len(words))), lengths)

    def test_effects_of_all_short_words(self):
        for lengths in ((1, 1), (2, 1), (2, 2), (2, 3)):
            fillings = list(all_box_fillings(lengths))
            effects = {tuple(fillings)}
            for count in range(1, 4):
                for word in itertools.product("xyXY", repeat=count):
                    effects.add(tuple(box_after_by_hand(lengths, filling, word) for filling in fillings))
            self.assertEqual(box_effects(lengths), len(effects))

    def test_number_of_any_word(self):
        draw = random.Random(140)
        for lengths in ALL_LENGTHS:
            for at in range(5):
                word = drawn_box_word(draw, lengths, 10)
                number = box_number_of(lengths, word)
                self.assertEqual(box_word_at(lengths, number), normal_by_hand(lengths, word), (lengths, word))

    def test_numbers_at_both_ends_and_beyond(self):
        for lengths, last, word in (((1,), 0, ""), ((2,), 2, "x"), ((2, 1), 2, "x"), ((2, 3), 12, "yx"),
                                    ((1, 2, 2), 12, "zy"), ((2, 2, 2), 78, "zyx"), ((1, 1, 1), 0, "")):
            self.assertEqual(box_word_at(lengths, 0), "")
            self.assertEqual(box_word_at(lengths, last), word)
            for number in (last + 1, last + 2, -1, -last - 1, 10 ** 59, -10 ** 59):
                error = raised(box_word_at, lengths, number)
                self.assertEqual(what(error), (InvalidNumber, {"number": number}), lengths)

    def test_no_numbers(self):
        for number in BAD_NUMBERS:
            with self.subTest(number=number):
                error = raised(box_word_at, (2, 2), number)
                self.assertEqual(what(error), (InvalidNumber, {"number": number}))
                self.assertIs(error.number, number)

    def test_results(self):
        self.assertIs(type(box_effects((2, 2))), int)
        self.assertIs(type(box_word_at((2, 2), 5)), str)
        self.assertIs(type(box_number_of((2, 2), "x")), int)


class BoxErrorsTest(unittest.TestCase):
    def test_invalid_lengths_come_first_in_all_functions(self):
        for call, names in CALLS:
            for value, index in ALL_LENGTH_FAULTS:
                good = {name: GOOD[name] for name in names}
                wrong = {name: WRONG[name][0] for name in names if name != "lengths"}
                for others in (good, wrong):
                    with self.subTest(call=call, value=value, others=others):
                        error = raised(call, **{**others, "lengths": value})
                        self.assertEqual(what(error), (InvalidLengths, {"index": index}))

    def test_all_lengths_are_valid(self):
        for lengths in ALL_LENGTHS:
            self.assertIsNone(raised(box_effects, lengths), lengths)

    def test_invalid_filling(self):
        for value, index in ALL_FILLING_FAULTS:
            for lengths in ((2, 2), (4,), (1, 4), (2, 1, 2)):
                for call, last in ((sort_axis, ("x", "X", "w", None)), (box_after, ("", "xX", "w", None))):
                    for each in last:
                        with self.subTest(call=call, value=value, lengths=lengths, each=each):
                            error = raised(call, lengths, value, each)
                            self.assertEqual(what(error), (InvalidFilling, {"index": index}))

    def test_invalid_word(self):
        for value, index in BOX_WORD_FAULTS:
            with self.subTest(value=value):
                wanted = (InvalidWord, {"index": index})
                self.assertEqual(what(raised(box_after, (2, 2), (1, 4, 3, 2), value)), wanted)
                self.assertEqual(what(raised(box_normal, (2, 2), value)), wanted)
                self.assertEqual(what(raised(box_number_of, (2, 2), value)), wanted)
                for call in (box_same, box_difference):
                    self.assertEqual(what(raised(call, (2, 2), "xy", value)), wanted)
                    for other in ("xy", "xyxyz", None, 5):
                        self.assertEqual(what(raised(call, (2, 2), value, other)), wanted)

    def test_words_of_axes_that_the_box_does_not_have(self):
        for lengths, word, index in (((2,), "xy", 1), ((2,), "xXY", 2), ((6,), "z", 0), ((1, 2), "xyZ", 2)):
            self.assertEqual(what(raised(box_normal, lengths, word)), (InvalidWord, {"index": index}))
            self.assertEqual(what(raised(box_same, lengths, "x", word)), (InvalidWord, {"index": index}))
        self.assertEqual(box_normal((1, 2, 1), "xyzXYZ"), "Y")

    def test_two_faults_in_the_order_of_the_parameters(self):
        for call, names in CALLS:
            for first, second in itertools.combinations(names[1:], 2):
                passed = {name: GOOD[name] for name in names}
                passed[first], wanted = WRONG[first]
                passed[second] = WRONG[second][0]
                # By name in the reverse order, so that the order of the call does not matter.
                turned = {name: passed[name] for name in reversed(names)}
                self.assertIs(type(raised(call, **turned)), wanted, (call, first, second))
        error = raised(box_same, (2, 2), "xz", "yyz")
        self.assertEqual(what(error), (InvalidWord, {"index": 1}))

    def test_by_position_and_by_name(self):
        for call, names in CALLS:
            wanted = call(*[GOOD[name] for name in names])
            self.assertEqual(call(**{name: GOOD[name] for name in names}), wanted)
            self.assertEqual(call(**{name: GOOD[name] for name in reversed(names)}), wanted)
            self.assertEqual(call(GOOD["lengths"], **{name: GOOD[name] for name in names[1:]}), wanted)

    def test_equal_calls_and_what_was_passed_stays(self):
        draw = random.Random(150)
        for lengths in SOME_LENGTHS:
            filling = drawn_box_filling(draw, lengths)
            word = drawn_box_word(draw, lengths, 9)
            other = drawn_box_word(draw, lengths, 9)
            passed = {"lengths": lengths, "filling": filling, "letter": "x", "word": word, "other": other, "number": 0}
            before = repr(passed)
            for call, names in CALLS:
                wanted = call(*[passed[name] for name in names])
                self.assertEqual(call(*[passed[name] for name in names]), wanted)
            self.assertEqual(repr(passed), before)

    def test_true_raises_even_after_the_equal_call(self):
        self.assertEqual(box_effects((1, 2)), 3)
        self.assertEqual(what(raised(box_effects, (True, 2))), (InvalidLengths, {"index": 0}))
        self.assertEqual(box_word_at((2, 2), 1), "X")
        self.assertEqual(what(raised(box_word_at, (2, 2), True)), (InvalidNumber, {"number": True}))


if __name__ == "__main__":
    unittest.main()
