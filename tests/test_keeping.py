import itertools
import random
import unittest

from keepsort.errors import InvalidKind, InvalidPlan
from keepsort.keeping import breaking_filling, keeps, obstacle
from keepsort.plans import transposed
from keepsort.sorting import is_sorted, sort_lines
from samples import (ALL_PLAN_FAULTS, BAD_KINDS, CORNER, FULL, PLAN, SKEW, SQUARE, STAIRS, all_fillings, block,
                     drawn_plan_that_keeps, drawn_plans, is_sorted_by_hand, obstacle_by_search, plans_within, raised,
                     small_plans, sort_by_hand, what)

OTHER = {"R": "C", "C": "R"}

# Cells in which plans of up to five cells are tried: three by three, and far apart.
NINE = block((0, 1, 2), (0, 1, 2))
SPREAD = block((0, 3, 7), (1, 6, 7))


def many_plans():
    draw = random.Random(10)
    yield from drawn_plans(11, 400)
    for at in range(100):
        yield drawn_plan_that_keeps(draw)
    yield from (((0, 0),), ((7, 7),), CORNER, PLAN, SKEW, SQUARE, STAIRS, FULL, transposed(FULL),
                FULL[1:], FULL[:-1], FULL[:7] + FULL[8:], FULL[:16] + FULL[17:])


def leaves_sorted(plan, kind):
    """Whether each filling that is sorted for the kind is so after a sort of the other kind."""
    for filling in all_fillings(plan):
        if is_sorted_by_hand(plan, filling, kind):
            if not is_sorted_by_hand(plan, sort_by_hand(plan, filling, OTHER[kind]), kind):
                return False
    return True


class KeepsTest(unittest.TestCase):
    def test_example_of_the_document(self):
        self.assertEqual([keeps(PLAN), keeps(SKEW)], [False, True])

    def test_three_of_four_cells(self):
        for missing, wanted in (((0, 0), True), ((1, 1), True), ((0, 1), False), ((1, 0), False)):
            plan = tuple(cell for cell in SQUARE if cell != missing)
            with self.subTest(missing=missing):
                self.assertIs(keeps(plan), wanted)

    def test_at_the_edges_of_the_grid(self):
        for missing, wanted in (((0, 0), True), ((7, 7), True), ((0, 7), False), ((7, 0), False)):
            plan = tuple(cell for cell in block((0, 7), (0, 7)) if cell != missing)
            with self.subTest(missing=missing):
                self.assertIs(keeps(plan), wanted)
                self.assertEqual(obstacle(plan), None if wanted else (0, 7, 0, 7))

    def test_all_fillings_of_plans_of_up_to_four_cells(self):
        for plan in plans_within(NINE, 4):
            wanted = leaves_sorted(plan, "R")
            self.assertIs(keeps(plan), wanted, plan)
            self.assertIs(leaves_sorted(plan, "C"), wanted, plan)

    def test_all_fillings_of_plans_of_five_cells(self):
        for plan in itertools.chain(itertools.combinations(NINE, 5),
                                    itertools.islice(itertools.combinations(SPREAD, 5), 0, None, 4)):
            wanted = leaves_sorted(plan, "R")
            self.assertIs(keeps(plan), wanted, plan)
            self.assertIs(leaves_sorted(plan, "C"), wanted, plan)

    def test_against_a_search(self):
        kept = 0
        for plan in many_plans():
            wanted = obstacle_by_search(plan) is None
            kept += wanted
            self.assertIs(keeps(plan), wanted, plan)
        self.assertGreater(kept, 100)

    def test_small_plans(self):
        for plan in small_plans():
            self.assertIs(keeps(plan), obstacle_by_search(plan) is None, plan)

    def test_rectangles_keep(self):
        for height in range(1, 9):
            for width in range(1, min(8, 24 // height) + 1):
                self.assertIs(keeps(block(range(height), range(width))), True, (height, width))


class ObstacleTest(unittest.TestCase):
    def test_example_of_the_document(self):
        self.assertEqual([obstacle(PLAN), obstacle(SKEW)], [(0, 1, 0, 1), None])

    def test_against_a_search(self):
        for plan in many_plans():
            found = obstacle(plan)
            self.assertEqual(found, obstacle_by_search(plan), plan)
            self.assertIn(type(found), (tuple, type(None)))

    def test_the_least_of_several(self):
        self.assertEqual(obstacle(block((0, 1), range(8)) + ((2, 1), (2, 5))), (0, 2, 0, 1))
        self.assertEqual(obstacle(((0, 0), (0, 3), (1, 3), (5, 2), (5, 3), (7, 3))), (0, 1, 0, 3))
        self.assertEqual(obstacle(((2, 2), (3, 2), (3, 4), (3, 5))), (2, 3, 2, 4))


class BreakingFillingTest(unittest.TestCase):
    def check(self, plan, kind):
        filling = breaking_filling(plan, kind)
        if obstacle_by_search(plan) is None:
            self.assertIsNone(filling, plan)
            return False
        self.assertIs(type(filling), tuple)
        self.assertEqual(len(filling), len(plan))
        self.assertEqual(len(set(filling)), len(plan))
        for value in filling:
            self.assertIs(type(value), int)
            self.assertTrue(1 <= value <= 9999)
        self.assertTrue(is_sorted_by_hand(plan, filling, kind), (plan, kind, filling))
        after = sort_by_hand(plan, filling, OTHER[kind])
        self.assertFalse(is_sorted_by_hand(plan, after, kind), (plan, kind, filling))
        return True

    def test_example_of_the_document(self):
        filling = breaking_filling(PLAN, "R")
        found = [is_sorted(PLAN, filling, "R"), is_sorted(PLAN, sort_lines(PLAN, filling, "C"), "R")]
        self.assertEqual(found, [True, False])

    def test_many_plans(self):
        for kind in "RC":
            found = [self.check(plan, kind) for plan in many_plans()]
            self.assertGreater(found.count(True), 100)
            self.assertGreater(found.count(False), 100)

    def test_small_plans(self):
        for plan in small_plans():
            for kind in "RC":
                self.check(plan, kind)

    def test_equal_calls_return_equal_fillings(self):
        for plan in drawn_plans(12, 100):
            for kind in "RC":
                self.assertEqual(breaking_filling(plan, kind), breaking_filling(tuple(list(plan)), kind))

    def test_invalid_kind(self):
        for plan in (PLAN, SKEW):
            for kind in BAD_KINDS:
                with self.subTest(plan=plan, kind=kind):
                    for error in (raised(breaking_filling, plan, kind), raised(breaking_filling, kind=kind, plan=plan)):
                        self.assertIs(type(error), InvalidKind)
                        self.assertIs(error.kind, kind)

    def test_invalid_plan_comes_before_invalid_kind(self):
        for value, index in ALL_PLAN_FAULTS:
            for kind in ("R", "C", "x", None):
                with self.subTest(value=value, kind=kind):
                    error = raised(breaking_filling, kind=kind, plan=value)
                    self.assertEqual(what(error), (InvalidPlan, {"index": index}))


class AllFunctionsTest(unittest.TestCase):
    def test_invalid_plan(self):
        for call in (keeps, obstacle):
            for value, index in ALL_PLAN_FAULTS:
                with self.subTest(call=call.__name__, value=value):
                    self.assertEqual(what(raised(call, value)), (InvalidPlan, {"index": index}))
                    self.assertEqual(what(raised(call, plan=value)), (InvalidPlan, {"index": index}))

    def test_true_raises_even_after_the_equal_call(self):
        for call in (keeps, obstacle, lambda plan: breaking_filling(plan, "C")):
            first = call(PLAN)
            self.assertEqual(what(raised(call, ((0, 0), (0, True), (1, 1), (2, 0)))), (InvalidPlan, {"index": 1}))
            self.assertEqual(call(PLAN), first)

    def test_by_name(self):
        self.assertIs(keeps(plan=SKEW), True)
        self.assertEqual(obstacle(plan=PLAN), (0, 1, 0, 1))
        for kind in "RC":
            wanted = breaking_filling(PLAN, kind)
            self.assertEqual(breaking_filling(plan=PLAN, kind=kind), wanted)
            self.assertEqual(breaking_filling(kind=kind, plan=PLAN), wanted)
            self.assertIsNone(breaking_filling(kind=kind, plan=SKEW))


if __name__ == "__main__":
    unittest.main()
