import unittest

from keepsort.errors import InvalidFilling, InvalidNumber, InvalidPlan
from keepsort.fillings import is_filling, ranks, signs
from samples import (ALL_FILLING_FAULTS, ALL_PLAN_FAULTS, BAD_NUMBERS, CORNER, FILLING_FAULTS, FULL, PLAN, SQUARE,
                     drawn_tables, raised, what)

FAR = (-10 ** 59, -10 ** 30, -1, 0, 1, 9999, 10000, 10 ** 30, 10 ** 59)


def fives(plan, filling):
    return signs(plan, filling, 5)


class IsFillingTest(unittest.TestCase):
    def test_example_of_the_document(self):
        found = [is_filling(CORNER, (5, 3, 9)), is_filling(CORNER, (5, 3)), is_filling(CORNER, (5, 3, 5))]
        self.assertEqual(found, [True, False, False])

    def test_least_and_greatest_values(self):
        for value, wanted in ((1, True), (9999, True), (0, False), (10000, False), (-1, False), (10 ** 59, False)):
            with self.subTest(value=value):
                self.assertIs(is_filling(((3, 4),), (value,)), wanted)
                self.assertIs(is_filling(CORNER, (7, 8, value)), wanted)
                self.assertIs(is_filling(CORNER, (value, 8, 7)), wanted)

    def test_number_of_values(self):
        for size in range(1, 25):
            for count in range(27):
                with self.subTest(size=size, count=count):
                    self.assertIs(is_filling(FULL[:size], tuple(range(1, count + 1))), size == count)

    def test_equal_values_anywhere(self):
        for one in range(24):
            for other in range(one):
                values = list(range(101, 125))
                values[one] = values[other]
                self.assertIs(is_filling(FULL, tuple(values)), False, (one, other))

    def test_no_fillings(self):
        for value, index in ALL_FILLING_FAULTS:
            with self.subTest(value=value):
                self.assertIs(is_filling(SQUARE, value), False)

    def test_true_is_no_value_even_after_the_equal_call(self):
        self.assertIs(is_filling(CORNER, (1, 3, 2)), True)
        self.assertIs(is_filling(CORNER, (True, 3, 2)), False)
        self.assertIs(is_filling(CORNER, (1, 3, 2)), True)
        self.assertIs(is_filling(((0, 0),), (1,)), True)
        self.assertIs(is_filling(((0, 0),), (True,)), False)

    def test_deeply_nested_values(self):
        value = 1
        for depth in range(20):
            value = (value,)
            with self.subTest(depth=depth):
                self.assertIs(is_filling(((0, 0),), value), depth == 0)

    def test_invalid_plan_whatever_the_value_is(self):
        for plan, index in ALL_PLAN_FAULTS:
            for value in ((1, 2, 3), (5,), (), None, "x", [1]):
                with self.subTest(plan=plan, value=value):
                    self.assertEqual(what(raised(is_filling, plan, value)), (InvalidPlan, {"index": index}))

    def test_by_name(self):
        self.assertIs(is_filling(plan=CORNER, value=(5, 3, 9)), True)
        self.assertIs(is_filling(value=(5, 3, 5), plan=CORNER), False)
        self.assertIs(is_filling(CORNER, value=(5, 3, 9)), True)


class RanksTest(unittest.TestCase):
    def test_example_of_the_document(self):
        self.assertEqual(ranks(CORNER, (50, 7, 90)), (2, 1, 3))

    def test_example_of_the_document_that_raises(self):
        self.assertEqual(what(raised(ranks, CORNER, (50, 7, True))), (InvalidFilling, {"index": 2}))

    def test_edges(self):
        self.assertEqual(ranks(((7, 7),), (9999,)), (1,))
        self.assertEqual(ranks(FULL, tuple(range(24, 0, -1))), tuple(range(24, 0, -1)))
        self.assertEqual(ranks(FULL, tuple(range(9976, 10000))), tuple(range(1, 25)))
        self.assertEqual(ranks(((0, 0), (7, 7)), (9999, 1)), (2, 1))

    def test_against_counts(self):
        for plan, filling in drawn_tables(1, 300):
            wanted = tuple(1 + sum(1 for other in filling if other < value) for value in filling)
            found = ranks(plan, filling)
            self.assertEqual(found, wanted)
            self.assertIs(type(found), tuple)

    def test_by_name(self):
        self.assertEqual(ranks(plan=CORNER, filling=(50, 7, 90)), (2, 1, 3))
        self.assertEqual(ranks(filling=(50, 7, 90), plan=CORNER), (2, 1, 3))


class SignsTest(unittest.TestCase):
    def test_example_of_the_document(self):
        self.assertEqual(signs(CORNER, (50, 7, 90), 50), "101")

    def test_limits_around_each_value(self):
        for plan, filling in drawn_tables(2, 60):
            for value in filling:
                for limit in (value - 1, value, value + 1):
                    wanted = "".join(str(int(other >= limit)) for other in filling)
                    self.assertEqual(signs(plan, filling, limit), wanted, (plan, filling, limit))

    def test_limits_far_away(self):
        filling = (1, 9999, 40, 500)
        found = [signs(PLAN, filling, limit) for limit in FAR]
        self.assertEqual(found, ["1111"] * 5 + ["0100"] + ["0000"] * 3)

    def test_invalid_number(self):
        for limit in BAD_NUMBERS:
            with self.subTest(limit=limit):
                for error in (raised(signs, CORNER, (50, 7, 90), limit),
                              raised(signs, limit=limit, plan=CORNER, filling=(50, 7, 90))):
                    self.assertIs(type(error), InvalidNumber)
                    self.assertIs(error.number, limit)

    def test_true_is_no_limit_even_after_the_equal_call(self):
        self.assertEqual(signs(CORNER, (1, 2, 3), 1), "111")
        self.assertIs(raised(signs, CORNER, (1, 2, 3), True).number, True)
        self.assertEqual(signs(CORNER, (1, 2, 3), 0), "111")
        self.assertIs(raised(signs, CORNER, (1, 2, 3), False).number, False)

    def test_invalid_filling_comes_before_invalid_number(self):
        for value, index in ALL_FILLING_FAULTS:
            with self.subTest(value=value):
                for limit in (True, None, "5", 3):
                    error = raised(signs, limit=limit, filling=value, plan=SQUARE)
                    self.assertEqual(what(error), (InvalidFilling, {"index": index}))

    def test_invalid_plan_comes_before_invalid_number(self):
        for value, index in ALL_PLAN_FAULTS:
            with self.subTest(value=value):
                error = raised(signs, value, (1, 2, 3, 4), None)
                self.assertEqual(what(error), (InvalidPlan, {"index": index}))

    def test_by_name(self):
        self.assertEqual(signs(plan=CORNER, filling=(50, 7, 90), limit=8), "101")
        self.assertEqual(signs(limit=8, filling=(50, 7, 90), plan=CORNER), "101")
        self.assertEqual(signs(CORNER, (50, 7, 90), limit=8), "101")


class BothTest(unittest.TestCase):
    calls = (ranks, fives)

    def test_invalid_plan_comes_first(self):
        for call in self.calls:
            for value, index in ALL_PLAN_FAULTS:
                for filling in ((1, 2, 3, 4), (1, 1), None, [1, 2]):
                    with self.subTest(call=call.__name__, value=value, filling=filling):
                        error = raised(call, value, filling)
                        self.assertEqual(what(error), (InvalidPlan, {"index": index}))

    def test_invalid_filling(self):
        for call in self.calls:
            for value, index in ALL_FILLING_FAULTS:
                with self.subTest(call=call.__name__, value=value):
                    error = raised(call, SQUARE, value)
                    self.assertEqual(what(error), (InvalidFilling, {"index": index}))

    def test_another_number_of_values_takes_precedence(self):
        for call in self.calls:
            for value, index in FILLING_FAULTS:
                for plan in (((0, 0),), CORNER, FULL):
                    with self.subTest(call=call.__name__, plan=plan, value=value):
                        error = raised(call, plan, value)
                        self.assertEqual(what(error), (InvalidFilling, {"index": None}))

    def test_last_of_24_values(self):
        for call in self.calls:
            for last in (0, 10000, 5, True, None):
                error = raised(call, FULL, tuple(range(2, 25)) + (last,))
                self.assertEqual(what(error), (InvalidFilling, {"index": 23}))

    def test_true_raises_even_after_the_equal_call(self):
        for call in self.calls:
            first = call(CORNER, (7, 1, 3))
            error = raised(call, CORNER, (7, True, 3))
            self.assertEqual(what(error), (InvalidFilling, {"index": 1}))
            self.assertEqual(call(CORNER, (7, 1, 3)), first)

    def test_arguments_are_not_modified(self):
        values = [3, 2, 1]
        inner = [2]
        for call in self.calls:
            raised(call, CORNER, values)
            raised(call, CORNER, (3, inner, 1))
        is_filling(CORNER, values)
        is_filling(CORNER, (3, inner, 1))
        self.assertEqual((values, inner), ([3, 2, 1], [2]))

    def test_equal_calls_return_equal_results(self):
        for plan, filling in drawn_tables(3, 50):
            for call in self.calls:
                self.assertEqual(call(plan, filling), call(tuple(list(plan)), tuple(list(filling))))


if __name__ == "__main__":
    unittest.main()
