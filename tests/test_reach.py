import random
import unittest

from keepsort.errors import InvalidFilling, InvalidPlan, OtherValues
from keepsort.reach import reachable, word_to
from keepsort.sorting import after
from samples import (ALL_FILLING_FAULTS, ALL_PLAN_FAULTS, CORNER, FULL, PLAN, SKEW, SQUARE, STAIRS, all_fillings, block,
                     drawn_filling, drawn_plan_that_keeps, drawn_tables, raised, reachable_by_search, what)

DOWN = tuple(range(15, 0, -1))


def tables():
    draw = random.Random(50)
    for plan in (((0, 0),), ((7, 7),), block([3], range(8)), block(range(8), [3]), CORNER, PLAN, SKEW, SQUARE, STAIRS,
                 FULL, block(range(4), range(2, 8))):
        yield plan, tuple(range(1, len(plan) + 1))
        yield plan, tuple(range(len(plan), 0, -1))
        for at in range(5):
            yield plan, drawn_filling(draw, plan)
    for at in range(50):
        plan = drawn_plan_that_keeps(draw)
        yield plan, drawn_filling(draw, plan)
    yield from drawn_tables(51, 200)


class ReachableTest(unittest.TestCase):
    def test_example_of_the_document(self):
        wanted = (("", (1, 4, 3, 2)), ("C", (1, 2, 3, 4)), ("R", (1, 4, 2, 3)), ("RC", (1, 3, 2, 4)))
        self.assertEqual(reachable(SQUARE, (1, 4, 3, 2)), wanted)

    def test_against_a_search(self):
        for plan, filling in tables():
            self.assertEqual(reachable(plan, filling), reachable_by_search(plan, filling), (plan, filling))

    def test_all_fillings_of_small_plans(self):
        for plan in (CORNER, PLAN, SKEW, SQUARE, STAIRS[:5], ((0, 0), (0, 2), (2, 2), (5, 0))):
            for filling in all_fillings(plan):
                self.assertEqual(reachable(plan, filling), reachable_by_search(plan, filling), (plan, filling))

    def test_settled_tables(self):
        for plan in (((4, 4),), SQUARE, PLAN, FULL):
            filling = tuple(range(1, len(plan) + 1))
            self.assertEqual(reachable(plan, filling), (("", filling),))

    def test_sorted_for_one_kind(self):
        self.assertEqual(reachable(((0, 0), (0, 1)), (2, 1)), (("", (2, 1)), ("R", (1, 2))))
        self.assertEqual(reachable(((0, 0), (1, 0)), (2, 1)), (("", (2, 1)), ("C", (1, 2))))

    def test_long_path(self):
        found = reachable(STAIRS, DOWN)
        self.assertEqual(found, reachable_by_search(STAIRS, DOWN))
        self.assertEqual(found[-1], ("CRCRCRCRCRCRCRC", tuple(range(1, 16))))

    def test_words_lead_to_their_tables(self):
        for plan, filling in drawn_tables(52, 100):
            pairs = reachable(plan, filling)
            self.assertEqual(len({table for word, table in pairs}), len(pairs))
            for word, table in pairs:
                self.assertEqual(after(plan, filling, word), table)

    def test_at_most_five_on_plans_that_keep(self):
        draw = random.Random(53)
        for at in range(100):
            plan = drawn_plan_that_keeps(draw)
            words = [word for word, table in reachable(plan, drawn_filling(draw, plan))]
            self.assertEqual(words, [word for word in ("", "C", "R", "CR", "RC") if word in words])

    def test_result(self):
        found = reachable(SQUARE, (1, 4, 3, 2))
        self.assertIs(type(found), tuple)
        for pair in found:
            self.assertEqual([type(pair), type(pair[0]), type(pair[1])], [tuple, str, tuple])

    def test_invalid_plan_comes_first(self):
        for value, index in ALL_PLAN_FAULTS:
            for filling in ((1, 2, 3, 4), None, [], (0,)):
                with self.subTest(value=value, filling=filling):
                    error = raised(reachable, filling=filling, plan=value)
                    self.assertEqual(what(error), (InvalidPlan, {"index": index}))

    def test_invalid_filling(self):
        for value, index in ALL_FILLING_FAULTS:
            with self.subTest(value=value):
                self.assertEqual(what(raised(reachable, SQUARE, value)), (InvalidFilling, {"index": index}))

    def test_true_raises_even_after_the_equal_call(self):
        reachable(SQUARE, (1, 4, 3, 2))
        error = raised(reachable, SQUARE, (True, 4, 3, 2))
        self.assertEqual(what(error), (InvalidFilling, {"index": 0}))

    def test_by_name_and_equal_calls(self):
        for plan, filling in drawn_tables(54, 30):
            wanted = reachable(plan, filling)
            self.assertEqual(reachable(plan=tuple(list(plan)), filling=tuple(list(filling))), wanted)
            self.assertEqual(reachable(filling=filling, plan=plan), wanted)


class WordToTest(unittest.TestCase):
    def test_example_of_the_document(self):
        found = [word_to(SQUARE, (1, 4, 3, 2), (1, 3, 2, 4)), word_to(SQUARE, (1, 4, 3, 2), (1, 4, 3, 2)),
                 word_to(SQUARE, (1, 4, 3, 2), (2, 1, 3, 4))]
        self.assertEqual(found, ["RC", "", None])

    def test_example_of_the_document_that_raises(self):
        self.assertEqual(what(raised(word_to, SQUARE, (1, 4, 3, 2), (1, 4, 3, 5))), (OtherValues, {}))

    def test_against_a_search(self):
        for plan, filling in tables():
            for word, table in reachable_by_search(plan, filling):
                self.assertEqual(word_to(plan, filling, table), word, (plan, filling, table))

    def test_all_pairs_of_fillings_of_small_plans(self):
        for plan in (((0, 0), (0, 1)), CORNER, PLAN, SKEW, SQUARE):
            for filling in all_fillings(plan):
                wanted = {table: word for word, table in reachable_by_search(plan, filling)}
                for other in all_fillings(plan):
                    self.assertEqual(word_to(plan, filling, other), wanted.get(other), (plan, filling, other))

    def test_there_is_no_way_back(self):
        for plan, filling in drawn_tables(55, 100):
            for word, table in reachable(plan, filling)[1:]:
                self.assertIsNone(word_to(plan, table, filling))

    def test_long_path(self):
        self.assertEqual(word_to(STAIRS, DOWN, tuple(range(1, 16))), "CRCRCRCRCRCRCRC")

    def test_other_values(self):
        for filling, other in (((1, 2, 3, 4), (1, 2, 3, 5)), ((1, 2, 3, 4), (5, 6, 7, 8)),
                               ((9999, 2, 3, 4), (4, 3, 2, 9998)), ((1, 2, 3, 5), (1, 2, 3, 4))):
            for plan in (SQUARE, PLAN):
                with self.subTest(plan=plan, filling=filling, other=other):
                    self.assertEqual(what(raised(word_to, plan, filling, other)), (OtherValues, {}))
                    error = raised(word_to, other=other, filling=filling, plan=plan)
                    self.assertEqual(what(error), (OtherValues, {}))

    def test_invalid_other_comes_before_other_values(self):
        for value, index in ALL_FILLING_FAULTS:
            for filling in ((1, 2, 3, 4), (90, 80, 70, 60)):
                with self.subTest(value=value, filling=filling):
                    error = raised(word_to, SQUARE, filling, value)
                    self.assertEqual(what(error), (InvalidFilling, {"index": index}))

    def test_invalid_filling_comes_before_invalid_other(self):
        for value, index in ALL_FILLING_FAULTS:
            for other in ((1, 2, 3, 4), (1, 2, 3, 0), None, (2, 2, 2, 2)):
                with self.subTest(value=value, other=other):
                    error = raised(word_to, other=other, filling=value, plan=SQUARE)
                    self.assertEqual(what(error), (InvalidFilling, {"index": index}))

    def test_invalid_plan_comes_first(self):
        for value, index in ALL_PLAN_FAULTS:
            for filling, other in (((1, 2, 3, 4), (1, 2, 3, 5)), (None, None), ((1, 2, 3, 4), [])):
                with self.subTest(value=value, filling=filling):
                    error = raised(word_to, other=other, filling=filling, plan=value)
                    self.assertEqual(what(error), (InvalidPlan, {"index": index}))

    def test_true_raises_even_after_the_equal_call(self):
        self.assertEqual(word_to(SQUARE, (1, 4, 3, 2), (1, 3, 2, 4)), "RC")
        error = raised(word_to, SQUARE, (1, 4, 3, 2), (True, 3, 2, 4))
        self.assertEqual(what(error), (InvalidFilling, {"index": 0}))
        error = raised(word_to, SQUARE, (True, 4, 3, 2), (1, 3, 2, 4))
        self.assertEqual(what(error), (InvalidFilling, {"index": 0}))

    def test_by_name_and_equal_calls(self):
        for plan, filling in drawn_tables(56, 30):
            for word, table in reachable(plan, filling):
                self.assertEqual(word_to(plan=plan, filling=filling, other=table), word)
                self.assertEqual(word_to(other=table, filling=filling, plan=plan), word)
                self.assertEqual(word_to(plan, filling, other=tuple(list(table))), word)


if __name__ == "__main__":
    unittest.main()
