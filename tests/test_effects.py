import itertools
import random
import unittest

from keepsort.effects import difference, effects, reduced, same
from keepsort.errors import InvalidPlan, InvalidWord, TooManyCells
from keepsort.keeping import keeps
from keepsort.sorting import after
from samples import (ALL_PLAN_FAULTS, CORNER, FULL, PLAN, SKEW, SQUARE, STAIRS, WORD_FAULTS, after_by_hand,
                     all_fillings, block, drawn_filling, drawn_plan, drawn_plan_that_keeps, drawn_plans, drawn_word,
                     first_of_each_letter, plans_within, raised, what)

ELEVEN = ((0, 0), (0, 1), (0, 2), (0, 3), (1, 0), (1, 1), (1, 2), (1, 3), (2, 0), (2, 1), (2, 2))
TEN = ELEVEN[:10]

# Plans of up to five cells of all shapes: rows, columns, corners, paths, holes, cells far apart.
SMALL_PLANS = (
    ((0, 0),),
    ((7, 3),),
    ((0, 0), (0, 1)),
    ((2, 5), (6, 5)),
    ((0, 0), (1, 1)),
    ((0, 7), (7, 0)),
    CORNER,
    ((0, 0), (0, 1), (1, 1)),
    ((0, 1), (1, 0), (1, 1)),
    ((0, 0), (1, 0), (1, 1)),
    ((0, 0), (0, 3), (0, 5)),
    PLAN,
    SKEW,
    SQUARE,
    STAIRS[:4],
    ((0, 0), (2, 4), (2, 6), (5, 6)),
)
FIVE_CELLS = (
    STAIRS[:5],
    ((0, 0), (0, 1), (0, 2), (1, 0), (1, 2)),
    ((0, 1), (1, 0), (1, 1), (1, 2), (2, 1)),
    ((0, 0), (0, 2), (1, 1), (2, 0), (2, 2)),
    block([3], range(5)),
)


def words_up_to(size):
    """All words of at most so many letters, in the order of words."""
    return ["".join(letters) for count in range(size + 1) for letters in itertools.product("CR", repeat=count)]


def words_in_turns(size):
    """All words of at most so many letters that differ from the letter before them, in the order of words."""
    return [""] + [("CR" * size)[at:at + count] for count in range(1, size + 1) for at in (0, 1)]


def effect_by_hand(plan, word):
    return tuple(after_by_hand(plan, filling, word) for filling in all_fillings(plan))


def call_same(plan):
    return same(plan, "RC", "CR")


def call_difference(plan):
    return difference(plan, "RC", "CR")


class ReducedTest(unittest.TestCase):
    def test_example_of_the_document(self):
        self.assertEqual([reduced(SKEW, "RCRCC"), reduced(PLAN, "RCRR")], ["RC", "RCR"])

    def test_plans_that_keep(self):
        draw = random.Random(40)
        for at in range(150):
            plan = drawn_plan_that_keeps(draw)
            word = drawn_word(draw, 8)
            found = reduced(plan, word)
            self.assertEqual(found, first_of_each_letter(word), (plan, word))
            filling = drawn_filling(draw, plan)
            self.assertEqual(after_by_hand(plan, filling, found), after_by_hand(plan, filling, word))

    def test_other_plans(self):
        draw = random.Random(41)
        plans = [plan for plan in drawn_plans(42, 300) if not keeps(plan)]
        self.assertGreater(len(plans), 100)
        for plan in plans:
            word = drawn_word(draw, 8)
            found = reduced(plan, word)
            self.assertEqual(found, "".join(letter for letter, group in itertools.groupby(word)), (plan, word))
            filling = drawn_filling(draw, plan)
            self.assertEqual(after_by_hand(plan, filling, found), after_by_hand(plan, filling, word))

    def test_short_words(self):
        for word, short, turns in (("", "", ""), ("R", "R", "R"), ("C", "C", "C"), ("RR", "R", "R"), ("CC", "C", "C"),
                                   ("RC", "RC", "RC"), ("CR", "CR", "CR"), ("RRC", "RC", "RC"), ("CRR", "CR", "CR"),
                                   ("CRC", "CR", "CRC"), ("RCCR", "RC", "RCR")):
            with self.subTest(word=word):
                self.assertEqual(reduced(SKEW, word), short)
                self.assertEqual(reduced(PLAN, word), turns)

    def test_long_words(self):
        self.assertEqual(reduced(SKEW, "RC" * 200), "RC")
        self.assertEqual(reduced(SKEW, "R" * 399 + "C"), "RC")
        self.assertEqual(reduced(SKEW, "C" * 400), "C")
        self.assertEqual(reduced(PLAN, "RC" * 200), "RC" * 200)
        self.assertEqual(reduced(PLAN, "R" * 399 + "C"), "RC")
        self.assertEqual(reduced(PLAN, "C" * 400), "C")

    def test_plans_of_more_than_ten_cells(self):
        self.assertEqual(reduced(FULL, "CCRC"), "CR")
        self.assertEqual(reduced(STAIRS, "CCRC"), "CRC")

    def test_invalid_word(self):
        for plan in (PLAN, SKEW, FULL):
            for word, index in WORD_FAULTS:
                with self.subTest(plan=plan, word=word):
                    self.assertEqual(what(raised(reduced, plan, word)), (InvalidWord, {"index": index}))
                    self.assertEqual(what(raised(reduced, word=word, plan=plan)), (InvalidWord, {"index": index}))

    def test_invalid_plan_comes_before_invalid_word(self):
        for value, index in ALL_PLAN_FAULTS:
            for word in ("R", "x", None):
                with self.subTest(value=value, word=word):
                    error = raised(reduced, word=word, plan=value)
                    self.assertEqual(what(error), (InvalidPlan, {"index": index}))

    def test_by_name(self):
        self.assertEqual(reduced(plan=PLAN, word="RCRR"), "RCR")
        self.assertEqual(reduced(word="RCRR", plan=SKEW), "RC")


class SameAndDifferenceTest(unittest.TestCase):
    def check(self, plan, word, other, wanted):
        self.assertIs(same(plan, word, other), wanted, (plan, word, other))
        filling = difference(plan, word, other)
        if wanted:
            self.assertIsNone(filling, (plan, word, other))
            return
        self.assertIs(type(filling), tuple)
        self.assertEqual(len(filling), len(plan))
        self.assertEqual(len(set(filling)), len(plan))
        for value in filling:
            self.assertIs(type(value), int)
            self.assertTrue(1 <= value <= 9999)
        self.assertNotEqual(after_by_hand(plan, filling, word), after_by_hand(plan, filling, other))

    def test_examples_of_the_document(self):
        self.assertEqual([same(SQUARE, "RCR", "RC"), same(SQUARE, "RC", "CR")], [True, False])
        filling = difference(SQUARE, "RC", "CR")
        found = [after(SQUARE, filling, "RC") == after(SQUARE, filling, "CR"), difference(SQUARE, "R", "RR")]
        self.assertEqual(found, [False, None])

    def test_example_of_the_document_that_raises(self):
        self.assertEqual(what(raised(same, ELEVEN, "R", "R")), (TooManyCells, {"count": 11}))

    def test_all_short_words_against_all_fillings(self):
        for plan in SMALL_PLANS:
            words = words_up_to(3) + ["CRCR", "RCRC", "CCRR", "RCRCRC", "CRCRCR"]
            found = {word: effect_by_hand(plan, word) for word in words}
            for word in words:
                for other in words:
                    self.check(plan, word, other, found[word] == found[other])

    def test_words_in_turns_against_all_fillings_of_five_cells(self):
        for plan in FIVE_CELLS:
            words = words_in_turns(6)
            found = {word: effect_by_hand(plan, word) for word in words}
            for word in words:
                for other in words:
                    self.check(plan, word, other, found[word] == found[other])

    def test_all_plans_of_up_to_four_cells(self):
        pairs = (("", "R"), ("", "C"), ("R", "C"), ("RC", "CR"), ("RCR", "RC"), ("CRC", "CR"), ("RCR", "CRC"))
        for plan in plans_within(block((0, 1, 2), (0, 2, 5)), 4):
            found = {word: effect_by_hand(plan, word) for word in ("", "R", "C", "RC", "CR", "RCR", "CRC")}
            for word, other in pairs:
                self.check(plan, word, other, found[word] == found[other])

    def test_long_words(self):
        self.check(STAIRS[:10], "RC" * 200, "CR" * 200, True)
        self.check(STAIRS[:10], "RC" * 200, "R" * 396 + "CRCR", False)
        self.check(STAIRS[:10], "RC" * 200, "RCRCRCRCRC", True)
        self.check(STAIRS[:10], "RC" * 200, "RCRCRCRCR", False)
        self.check(SQUARE, "R" * 399 + "C", "RC", True)
        self.check(SQUARE, "R" * 399 + "C", "CR" * 200, False)

    def test_drawn_plans_of_up_to_ten_cells(self):
        draw = random.Random(43)
        for at in range(150):
            plan = drawn_plan(draw, 10)
            word, other = drawn_word(draw, 6), drawn_word(draw, 6)
            if same(plan, word, other):
                self.check(plan, word, other, True)
                for more in range(20):
                    filling = drawn_filling(draw, plan)
                    self.assertEqual(after_by_hand(plan, filling, word), after_by_hand(plan, filling, other))
            else:
                self.check(plan, word, other, False)

    def test_reduced_words_have_the_same_effect(self):
        draw = random.Random(44)
        for at in range(100):
            plan = drawn_plan(draw, 10) if at % 2 else drawn_plan_that_keeps(draw, 10)
            word = drawn_word(draw, 10)
            self.check(plan, word, reduced(plan, word), True)

    def test_ten_cells(self):
        self.assertEqual(len(TEN), 10)
        self.check(TEN, "RC", "CR", False)
        self.check(TEN, "RR", "R", True)
        self.check(block((0, 1), range(5)), "RCR", "RC", True)

    def test_invalid_word(self):
        for call in (same, difference):
            for word, index in WORD_FAULTS:
                with self.subTest(call=call.__name__, word=word):
                    wanted = (InvalidWord, {"index": index})
                    self.assertEqual(what(raised(call, PLAN, word, "R")), wanted)
                    self.assertEqual(what(raised(call, PLAN, "R", word)), wanted)
                    self.assertEqual(what(raised(call, other="R", word=word, plan=PLAN)), wanted)
                    self.assertEqual(what(raised(call, other=word, word="R", plan=PLAN)), wanted)
                    self.assertEqual(what(raised(call, PLAN, word, word)), wanted)

    def test_the_first_word_raises_first(self):
        for call in (same, difference):
            self.assertEqual(what(raised(call, PLAN, "RCx", "x")), (InvalidWord, {"index": 2}))
            self.assertEqual(what(raised(call, PLAN, "x", None)), (InvalidWord, {"index": 0}))
            self.assertEqual(what(raised(call, PLAN, None, "x")), (InvalidWord, {"index": None}))
            self.assertEqual(what(raised(call, other="x", word="RRRx", plan=PLAN)), (InvalidWord, {"index": 3}))

    def test_too_many_cells_comes_before_the_errors_of_the_words(self):
        for call in (same, difference):
            for size in range(11, 25):
                for word, other in (("R", "C"), ("x", "C"), ("R", None), ("R" * 401, 5)):
                    with self.subTest(call=call.__name__, size=size, word=word, other=other):
                        error = raised(call, FULL[:size], word, other)
                        self.assertEqual(what(error), (TooManyCells, {"count": size}))

    def test_invalid_plan_comes_before_the_errors_of_the_words(self):
        for call in (same, difference):
            for value, index in ALL_PLAN_FAULTS:
                for word, other in (("R", "C"), ("x", None)):
                    with self.subTest(call=call.__name__, value=value, word=word):
                        error = raised(call, other=other, word=word, plan=value)
                        self.assertEqual(what(error), (InvalidPlan, {"index": index}))

    def test_by_name(self):
        self.assertIs(same(plan=PLAN, word="RC", other="CR"), False)
        self.assertIs(same(other="RCC", word="RC", plan=PLAN), True)
        wanted = difference(PLAN, "RC", "CR")
        self.assertEqual(difference(plan=PLAN, word="RC", other="CR"), wanted)
        self.assertEqual(difference(other="CR", word="RC", plan=PLAN), wanted)


class EffectsTest(unittest.TestCase):
    def test_example_of_the_document(self):
        self.assertEqual([effects(SQUARE), effects(((0, 0), (0, 1)))], [("", "C", "R", "CR", "RC"), ("", "R")])

    def test_all_words_on_plans_of_up_to_four_cells(self):
        # Four cells are settled by four sorts in turns, so longer words have no further effects.
        for plan in SMALL_PLANS:
            firsts = {}
            for word in words_up_to(6):
                firsts.setdefault(effect_by_hand(plan, word), word)
            found = effects(plan)
            self.assertEqual(found, tuple(firsts.values()), plan)
            self.assertIs(type(found), tuple)

    def test_words_in_turns_on_plans_of_five_cells(self):
        for plan in FIVE_CELLS:
            firsts = {}
            for word in words_in_turns(8):
                firsts.setdefault(effect_by_hand(plan, word), word)
            self.assertEqual(effects(plan), tuple(firsts.values()), plan)

    def test_all_plans_of_up_to_three_cells(self):
        for plan in plans_within(block((0, 4, 7), (0, 1, 7)), 3):
            firsts = {}
            for word in words_in_turns(6):
                firsts.setdefault(effect_by_hand(plan, word), word)
            self.assertEqual(effects(plan), tuple(firsts.values()), plan)

    def test_words_in_turns_on_a_path(self):
        for size in range(3, 11):
            words = words_in_turns(size)
            # On a path of n cells, both words of n letters in turns sort all values.
            self.assertEqual(effects(STAIRS[:size]), tuple(words[:2 * size]), size)

    def test_one_cell_and_lines(self):
        self.assertEqual(effects(((5, 5),)), ("",))
        self.assertEqual(effects(((0, 0), (1, 1))), ("",))
        self.assertEqual(effects(((0, 3), (4, 3))), ("", "C"))
        self.assertEqual(effects(block([2], range(8))), ("", "R"))
        self.assertEqual(effects(block((0, 1), range(5))), ("", "C", "R", "CR", "RC"))

    def test_at_most_five_on_plans_that_keep(self):
        draw = random.Random(45)
        for at in range(60):
            plan = drawn_plan_that_keeps(draw, 10)
            found = effects(plan)
            self.assertEqual(found, tuple(word for word in ("", "C", "R", "CR", "RC") if word in found), plan)

    def test_words_differ_and_later_words_have_one_of_these_effects(self):
        for plan in drawn_plans(46, 30, 10):
            found = effects(plan)
            self.assertEqual(list(found), sorted(found, key=lambda word: (len(word), word)))
            for word, other in itertools.combinations(found, 2):
                self.assertIs(same(plan, word, other), False)
            for word in words_in_turns(len(found[-1]) + 2):
                firsts = [other for other in found if same(plan, word, other)]
                self.assertEqual(len(firsts), 1)
                self.assertLessEqual((len(firsts[0]), firsts[0]), (len(word), word))

    def test_by_name(self):
        self.assertEqual(effects(plan=CORNER), effects(CORNER))


class PlansTest(unittest.TestCase):
    calls = (call_same, call_difference, effects)

    def test_too_many_cells(self):
        for call in self.calls:
            for size in range(11, 25):
                with self.subTest(call=call.__name__, size=size):
                    self.assertEqual(what(raised(call, FULL[:size])), (TooManyCells, {"count": size}))
                    self.assertEqual(what(raised(call, plan=FULL[:size])), (TooManyCells, {"count": size}))
            self.assertIsNone(raised(call, FULL[:10]))

    def test_invalid_plan_comes_before_too_many_cells(self):
        for call in self.calls:
            for value, index in ALL_PLAN_FAULTS:
                with self.subTest(call=call.__name__, value=value):
                    self.assertEqual(what(raised(call, value)), (InvalidPlan, {"index": index}))
            self.assertEqual(what(raised(call, FULL[:12] + FULL[:1])), (InvalidPlan, {"index": 12}))
            self.assertEqual(what(raised(call, FULL + FULL)), (InvalidPlan, {"index": None}))

    def test_true_raises_even_after_the_equal_call(self):
        for call in self.calls:
            first = call(SQUARE)
            error = raised(call, ((0, 0), (0, True), (1, 0), (1, 1)))
            self.assertEqual(what(error), (InvalidPlan, {"index": 1}))
            self.assertEqual(call(SQUARE), first)

    def test_equal_calls_return_equal_results(self):
        for plan in drawn_plans(47, 40, 10):
            for call in self.calls:
                self.assertEqual(call(plan), call(tuple(list(plan))))


if __name__ == "__main__":
    unittest.main()
