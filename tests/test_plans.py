import unittest

from keepsort.errors import InvalidKind, InvalidPlan
from keepsort.plans import is_plan, is_rectangle, lines, transposed
from samples import ALL_PLAN_FAULTS, BAD_KINDS, FULL, NO_PLANS, OVER, PLAN, PLAN_FAULTS, SQUARE, block, small_plans

PLANS = (
    ((0, 0),),
    ((7, 7),),
    ((0, 7),),
    ((7, 0),),
    FULL,
    FULL[:23],
    block(range(8), range(3)),
    PLAN,
    SQUARE,
    ((0, 0), (0, 2), (5, 1)),
    ((0, 7), (1, 0)),
    ((0, 0), (7, 7)),
)


def lines_by_definition(plan, kind):
    found = []
    for place in range(8):
        if kind == "R":
            cells = [(place, column) for column in range(8)]
        else:
            cells = [(row, place) for row in range(8)]
        line = tuple(plan.index(cell) for cell in cells if cell in plan)
        if line:
            found.append(line)
    return tuple(found)


def is_rectangle_by_definition(plan):
    rows = sorted(row for row, column in plan)
    columns = sorted(column for row, column in plan)
    wanted = block(range(rows[0], rows[-1] + 1), range(columns[0], columns[-1] + 1))
    return all(cell in plan for cell in wanted)


class IsPlanTest(unittest.TestCase):
    def test_example_of_the_document(self):
        found = [is_plan(((0, 0), (0, 2), (5, 1))), is_plan(((0, 2), (0, 0))), is_plan(((0, 8),))]
        self.assertEqual(found, [True, False, False])

    def test_sizes(self):
        self.assertEqual(len(FULL), 24)
        self.assertIs(is_plan(((0, 0),)), True)
        self.assertIs(is_plan(FULL), True)
        self.assertIs(is_plan(()), False)
        self.assertIs(is_plan(OVER), False)

    def test_rows_and_columns(self):
        for place, wanted in ((0, True), (7, True), (-1, False), (8, False)):
            with self.subTest(place=place):
                self.assertIs(is_plan(((place, 3),)), wanted)
                self.assertIs(is_plan(((3, place),)), wanted)

    def test_plans(self):
        for plan in PLANS:
            with self.subTest(plan=plan):
                self.assertIs(is_plan(plan), True)

    def test_no_plans(self):
        for value in [value for value, index in ALL_PLAN_FAULTS]:
            with self.subTest(value=value):
                self.assertIs(is_plan(value), False)

    def test_true_and_false_are_no_integers_even_after_the_equal_call(self):
        self.assertIs(is_plan(((0, 1), (1, 0))), True)
        self.assertIs(is_plan(((0, True), (1, 0))), False)
        self.assertIs(is_plan(((False, 1), (1, 0))), False)
        self.assertIs(is_plan(((0, 1), (True, 0))), False)
        self.assertIs(is_plan(((0, 1), (1, False))), False)
        self.assertIs(is_plan(((0, 1), (1, 0))), True)

    def test_by_name(self):
        self.assertIs(is_plan(value=PLAN), True)
        self.assertIs(is_plan(value=OVER), False)

    def test_deeply_nested_values(self):
        value = 0
        for depth in range(20):
            value = (value,)
            with self.subTest(depth=depth):
                self.assertIs(is_plan(value), False)


class LinesTest(unittest.TestCase):
    def test_example_of_the_document(self):
        self.assertEqual([lines(PLAN, "R"), lines(PLAN, "C")], [((0, 1), (2,), (3,)), ((0, 3), (1, 2))])

    def test_example_of_the_document_that_raises(self):
        with self.assertRaises(InvalidPlan) as held:
            lines(((0, 0), (0, 0)), "R")
        self.assertEqual(held.exception.index, 1)

    def test_one_cell(self):
        for cell in ((0, 0), (7, 7), (3, 5)):
            for kind in "RC":
                with self.subTest(cell=cell, kind=kind):
                    self.assertEqual(lines((cell,), kind), ((0,),))

    def test_empty_rows_and_columns_between(self):
        plan = ((1, 6), (4, 2), (4, 6), (7, 0))
        self.assertEqual(lines(plan, "R"), ((0,), (1, 2), (3,)))
        self.assertEqual(lines(plan, "C"), ((3,), (1,), (0, 2)))

    def test_full_plan(self):
        self.assertEqual(lines(FULL, "R"), (tuple(range(8)), tuple(range(8, 16)), tuple(range(16, 24))))
        self.assertEqual(lines(FULL, "C"), tuple((at, at + 8, at + 16) for at in range(8)))

    def test_lines_by_definition(self):
        for plan in small_plans():
            for kind in "RC":
                self.assertEqual(lines(plan, kind), lines_by_definition(plan, kind), (plan, kind))

    def test_results_are_tuples(self):
        found = lines(PLAN, "C")
        self.assertIs(type(found), tuple)
        self.assertEqual({type(line) for line in found}, {tuple})

    def test_by_name(self):
        wanted = ((0, 3), (1, 2))
        self.assertEqual(lines(plan=PLAN, kind="C"), wanted)
        self.assertEqual(lines(kind="C", plan=PLAN), wanted)
        self.assertEqual(lines(PLAN, kind="C"), wanted)

    def test_invalid_kind(self):
        for kind in BAD_KINDS:
            with self.subTest(kind=kind):
                with self.assertRaises(InvalidKind) as held:
                    lines(PLAN, kind)
                self.assertIs(held.exception.kind, kind)
                with self.assertRaises(InvalidKind) as held:
                    lines(kind=kind, plan=PLAN)
                self.assertIs(held.exception.kind, kind)

    def test_invalid_plan_comes_before_invalid_kind(self):
        for value, index in ALL_PLAN_FAULTS:
            with self.subTest(value=value):
                with self.assertRaises(InvalidPlan) as held:
                    lines(kind="r", plan=value)
                self.assertEqual(held.exception.index, index)


class TransposedTest(unittest.TestCase):
    def test_example_of_the_document(self):
        self.assertEqual(transposed(PLAN), ((0, 0), (0, 2), (1, 0), (1, 1)))

    def test_edges(self):
        self.assertEqual(transposed(((0, 7),)), ((7, 0),))
        self.assertEqual(transposed(FULL), block(range(8), range(3)))
        self.assertEqual(transposed(((0, 7), (1, 0))), ((0, 1), (7, 0)))

    def test_twice_gives_the_plan(self):
        for plan in PLANS + tuple(small_plans()):
            once = transposed(plan)
            self.assertIs(is_plan(once), True, plan)
            self.assertEqual(set(once), {(column, row) for row, column in plan})
            self.assertEqual(transposed(once), plan)

    def test_exchanges_the_kinds_of_lines(self):
        for plan in small_plans():
            once = transposed(plan)
            rows = tuple(tuple(plan.index(once[at][::-1]) for at in line) for line in lines(once, "R"))
            self.assertEqual(rows, lines(plan, "C"), plan)

    def test_by_name(self):
        self.assertEqual(transposed(plan=PLAN), transposed(PLAN))


class IsRectangleTest(unittest.TestCase):
    def test_example_of_the_document(self):
        found = [is_rectangle(SQUARE), is_rectangle(PLAN), is_rectangle(((3, 5), (3, 6)))]
        self.assertEqual(found, [True, False, True])

    def test_rectangles(self):
        for plan in (FULL, transposed(FULL), ((0, 0),), ((4, 6),), ((7, 7),),
                     block([5], range(8)), block(range(8), [5]), block([2], [3, 4, 5]),
                     block([2, 3, 4], [6]), block(range(3, 7), range(2, 8)), block([6, 7], [6, 7])):
            with self.subTest(plan=plan):
                self.assertIs(is_rectangle(plan), True)

    def test_rectangles_without_one_cell(self):
        for rows, columns in ((range(2, 5), range(3, 6)), (range(4), range(6)), (range(2), range(2)),
                              (range(6, 8), range(5, 8))):
            plan = block(rows, columns)
            for cell in plan:
                with self.subTest(plan=plan, cell=cell):
                    self.assertIs(is_rectangle(tuple(other for other in plan if other != cell)), False)

    def test_lines_without_a_cell_in_the_middle(self):
        self.assertIs(is_rectangle(((3, 0), (3, 2))), False)
        self.assertIs(is_rectangle(((0, 3), (2, 3))), False)

    def test_empty_rows_and_columns_between(self):
        self.assertIs(is_rectangle(((0, 0), (0, 7), (7, 0), (7, 7))), False)
        self.assertIs(is_rectangle(block([0, 2], [1, 2])), False)
        self.assertIs(is_rectangle(block([1, 2], [0, 2])), False)

    def test_by_definition(self):
        for plan in small_plans():
            self.assertIs(is_rectangle(plan), is_rectangle_by_definition(plan), plan)

    def test_by_name(self):
        self.assertIs(is_rectangle(plan=SQUARE), True)
        self.assertIs(is_rectangle(plan=PLAN), False)


def row_lines(plan):
    return lines(plan, "R")


class AllFunctionsTest(unittest.TestCase):
    calls = (row_lines, transposed, is_rectangle)

    def test_invalid_plan_with_an_index(self):
        for value, index in PLAN_FAULTS:
            for call in self.calls:
                with self.subTest(value=value, call=call.__name__):
                    with self.assertRaises(InvalidPlan) as held:
                        call(plan=value)
                    self.assertIs(type(held.exception.index), int)
                    self.assertEqual(held.exception.index, index)

    def test_invalid_plan_without_an_index(self):
        for value in NO_PLANS:
            for call in self.calls:
                with self.subTest(value=value, call=call.__name__):
                    with self.assertRaises(InvalidPlan) as held:
                        call(value)
                    self.assertIsNone(held.exception.index)

    def test_true_and_false_raise_even_after_the_equal_call(self):
        for call in self.calls:
            with self.subTest(call=call.__name__):
                first = call(((0, 1), (1, 0)))
                with self.assertRaises(InvalidPlan) as held:
                    call(((0, 1), (True, 0)))
                self.assertEqual(held.exception.index, 1)
                self.assertEqual(call(((0, 1), (1, 0))), first)

    def test_equal_calls_return_equal_results(self):
        first = [[call(plan) for plan in PLANS] for call in self.calls]
        again = [[call(tuple(list(plan))) for plan in PLANS] for call in self.calls]
        self.assertEqual(first, again)

    def test_arguments_are_not_modified(self):
        whole = [(0, 2), (0, 0)]
        inner = [0, 1]
        for call in self.calls:
            with self.subTest(call=call.__name__):
                with self.assertRaises(InvalidPlan):
                    call(whole)
                with self.assertRaises(InvalidPlan):
                    call(((0, 0), inner))
        is_plan(whole)
        is_plan(((0, 0), inner))
        self.assertEqual(whole, [(0, 2), (0, 0)])
        self.assertEqual(inner, [0, 1])


if __name__ == "__main__":
    unittest.main()
