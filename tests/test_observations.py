import itertools
import math
import random
import unittest

from keepsort.errors import InvalidRecord, NoOrder, UnknownName
from keepsort.observations import comparisons, count_orders, find_order, is_smaller
from record_samples import (GOOD_RECORDS, IMPOSSIBLE, LONGEST, NO_RECORDS, OTHER, PAIR, RECORD, ROW_OF_EIGHT, THIRD,
                            TWELVE, WRONG_RECORDS, drawn_names, drawn_record, drawn_records, explains, orders_by_search)
from samples import CORNER, SQUARE, block, raised, what

NO_NAMES = ("eve", "", "AL", "al ", "abcdefg", None, 0, 5, True, False, (), ("al",), ["al"], [], b"al",
            {"al"}, {}, object())


def samples_of_records():
    """Records that some order explains and records that none explains, with few names."""
    draw = random.Random(300)
    yield from ((RECORD,), (OTHER,), (RECORD, OTHER), (RECORD, THIRD), (IMPOSSIBLE,), (RECORD, IMPOSSIBLE),
                (PAIR,), (LONGEST,))
    for at in range(150):
        yield drawn_records(draw, draw.randint(2, 5), draw.randint(1, 4))
    for at in range(12):
        yield drawn_records(draw, 6, draw.randint(1, 5))
    yield drawn_records(draw, 7, 2)
    yield drawn_records(draw, 4, 20)


def side_by_side(record):
    """The pairs of neighbours in the lines of `after`, from the cells of the plan."""
    plan, before, kind, after = record
    side = "RC".index(kind)
    cells = sorted(plan, key=lambda cell: (cell[side], cell[1 - side]))
    names = dict(zip(plan, after))
    return sorted((names[one], names[other]) for one, other in zip(cells, cells[1:]) if one[side] == other[side])


class ComparisonsTest(unittest.TestCase):
    def test_examples_of_the_document(self):
        self.assertEqual([comparisons(RECORD), comparisons(OTHER)], [(("al", "bo"),), (("cy", "al"),)])
        self.assertIsNone(comparisons(IMPOSSIBLE))

    def test_against_all_orders(self):
        for records in samples_of_records():
            for record in records[:3]:
                found = comparisons(record)
                if orders_by_search((record,)):
                    self.assertEqual(found, tuple(side_by_side(record)), record)
                else:
                    self.assertIsNone(found, record)

    def test_all_results_of_a_sort_of_a_square(self):
        before = ("a", "b", "c", "d")
        for kind in "RC":
            for after in itertools.permutations(before):
                record = (SQUARE, before, kind, after)
                found = comparisons(record)
                self.assertEqual(found is None, not orders_by_search((record,)), record)
                if found is not None:
                    self.assertEqual(found, tuple(side_by_side(record)))

    def test_twelve_names(self):
        plan = block(range(3), range(4))
        found = comparisons((plan, TWELVE, "R", TWELVE))
        self.assertEqual(found, tuple(zip("abcefgijk", "bcdfghjkl")))
        found = comparisons((plan, TWELVE, "C", TWELVE))
        self.assertEqual(found, tuple(zip("abcdefgh", "efghijkl")))

    def test_no_line_with_two_cells(self):
        self.assertEqual(comparisons(LONGEST), ())
        turned = LONGEST[:3] + (LONGEST[1][::-1],)
        self.assertIsNone(comparisons(turned))

    def test_result(self):
        found = comparisons(RECORD)
        self.assertEqual([type(found), type(found[0]), type(found[0][0])], [tuple, tuple, str])

    def test_no_records(self):
        for value in WRONG_RECORDS + NO_RECORDS + ((RECORD,),):
            with self.subTest(value=value):
                self.assertEqual(what(raised(comparisons, value)), (InvalidRecord, {"index": None}))

    def test_records(self):
        for record in GOOD_RECORDS:
            self.assertIsNone(raised(comparisons, record), record)


class OrdersTest(unittest.TestCase):
    def test_examples_of_the_document(self):
        found = [find_order((RECORD,)), find_order((RECORD, OTHER)), find_order((RECORD, THIRD))]
        self.assertEqual(found, [("al", "bo", "cy"), ("cy", "al", "bo"), None])
        self.assertEqual(count_orders((RECORD,)), 3)

    def test_against_all_orders(self):
        seen = set()
        for records in samples_of_records():
            orders = orders_by_search(records)
            seen.add(len(orders) > 0)
            self.assertEqual(find_order(records), orders[0] if orders else None, records)
            self.assertEqual(count_orders(records), len(orders), records)
        self.assertEqual(seen, {True, False})

    def test_only_together_impossible(self):
        for records in ((RECORD, THIRD), (THIRD, RECORD), (OTHER, RECORD, RECORD, THIRD)):
            self.assertIsNone(find_order(records))
            self.assertEqual(count_orders(records), 0)
            for record in records:
                self.assertIsNotNone(find_order((record,)))

    def test_a_circle_over_three_records(self):
        plan = ((0, 0), (0, 1), (1, 0))
        records = tuple((plan, names, "R", names) for names in (("a", "b", "c"), ("b", "c", "a"), ("c", "a", "b")))
        self.assertIsNone(find_order(records))
        self.assertEqual(count_orders(records), 0)
        self.assertEqual(find_order(records[:2]), ("a", "b", "c"))
        self.assertEqual(find_order(records[1:]), ("b", "c", "a"))

    def test_different_plans(self):
        line = ((0, 0), (0, 1), (0, 2))
        column = ((2, 5), (3, 5), (7, 5))
        one = (line, ("c", "b", "a"), "R", ("b", "a", "c"))
        other = (column, ("c", "b", "a"), "C", ("b", "a", "c"))
        idle = (column, ("c", "b", "a"), "R", ("c", "b", "a"))
        self.assertEqual(find_order((one, other, idle)), ("b", "a", "c"))
        self.assertEqual(count_orders((idle, one)), 1)
        self.assertEqual(count_orders((idle,)), 6)

    def test_least_order(self):
        # A name that must wait for a great one comes late, all others come as early as they can.
        plan = ((0, 0), (0, 1), (1, 0), (2, 0))
        record = (plan, ("a", "d", "b", "c"), "R", ("d", "a", "b", "c"))
        self.assertEqual(find_order((record,)), ("b", "c", "d", "a"))

    def test_names_are_compared_as_strings(self):
        record = (((0, 0), (1, 1), (2, 2), (3, 3)), ("b", "ab", "a", "aa"), "R", ("b", "ab", "a", "aa"))
        self.assertEqual(find_order((record,)), ("a", "aa", "ab", "b"))

    def test_twelve_names(self):
        idle = (block(range(6), (0, 1)), TWELVE, "R", TWELVE)
        self.assertEqual(count_orders((idle,)), math.factorial(12) // 2 ** 6)
        self.assertEqual(find_order((idle,)), TWELVE)
        columns = (block(range(3), range(4)), TWELVE, "C", TWELVE)
        self.assertEqual(count_orders((columns,)), math.factorial(12) // 6 ** 4)
        rows = (block(range(3), range(4)), TWELVE, "R", TWELVE)
        # Rows and columns ascend: the settled tables of three rows and four columns.
        self.assertEqual(count_orders((rows, columns)), 462)
        line = (ROW_OF_EIGHT + block([1], range(4)), TWELVE[::-1], "R", TWELVE[4:] + TWELVE[:4])
        self.assertEqual(count_orders((line,)), math.comb(12, 4))
        self.assertEqual(find_order((line,)), TWELVE)

    def test_twelve_names_of_drawn_records(self):
        draw = random.Random(301)
        for at in range(10):
            names = drawn_names(draw, 12)
            order = draw.sample(names, 12)
            records = tuple(drawn_record(draw, names, order) for at in range(draw.randint(1, 20)))
            found = find_order(records)
            self.assertTrue(all(explains(found, record) for record in records))
            self.assertLessEqual(found, tuple(order))
            self.assertGreaterEqual(count_orders(records), 1)

    def test_results(self):
        found = find_order((RECORD,))
        self.assertEqual([type(found), type(found[0]), type(count_orders((RECORD,)))], [tuple, str, int])
        self.assertIs(type(count_orders((RECORD, THIRD))), int)


class IsSmallerTest(unittest.TestCase):
    def test_examples_of_the_document(self):
        self.assertEqual([is_smaller((RECORD,), "al", "bo"), is_smaller((RECORD,), "al", "cy")], [True, False])
        self.assertEqual(what(raised(is_smaller, (RECORD,), "al", "eve")), (UnknownName, {"name": "eve"}))

    def test_against_all_orders(self):
        for records in samples_of_records():
            orders = orders_by_search(records)
            for one, other in itertools.product(sorted(records[0][1]), repeat=2):
                if orders:
                    wanted = all(order.index(one) < order.index(other) for order in orders)
                    self.assertIs(is_smaller(records, one, other), wanted, (records, one, other))
                else:
                    self.assertEqual(what(raised(is_smaller, records, one, other)), (NoOrder, {}), records)

    def test_long_chain(self):
        record = (block([0], range(8)) + block([1], range(4)), TWELVE, "R", TWELVE)
        names = tuple("hiabcdefgjkl")
        link = (block([0], (3, 4)) + block([1], range(8)) + block([5], (0, 7)), names[::-1], "R", names[::-1])
        self.assertIsNone(find_order((record, link)))
        link = (block([0], (3, 4)) + block([1], range(8)) + block([5], (0, 7)), names, "R", names)
        self.assertIs(is_smaller((record,), "a", "h"), True)
        self.assertIs(is_smaller((record,), "a", "i"), False)
        self.assertIs(is_smaller((record, link), "a", "l"), True)
        self.assertIs(is_smaller((record, link), "l", "a"), False)
        self.assertEqual(count_orders((record, link)), 1)

    def test_the_same_name(self):
        for name in ("al", "bo", "cy"):
            self.assertIs(is_smaller((RECORD,), name, name), False)

    def test_unknown_names(self):
        for name in NO_NAMES:
            for records in ((RECORD,), (RECORD, THIRD), (IMPOSSIBLE,)):
                with self.subTest(name=name, records=records):
                    error = raised(is_smaller, records, "al", name)
                    self.assertEqual(what(error), (UnknownName, {"name": name}))
                    for other in ("al", "dan", None, name):
                        error = raised(is_smaller, other=other, one=name, records=records)
                        self.assertEqual(what(error), (UnknownName, {"name": name}))

    def test_no_order_comes_last(self):
        for records in ((RECORD, THIRD), (IMPOSSIBLE,), (RECORD, IMPOSSIBLE)):
            self.assertEqual(what(raised(is_smaller, records, "al", "bo")), (NoOrder, {}))
            self.assertEqual(what(raised(is_smaller, records, "al", "al")), (NoOrder, {}))
            self.assertEqual(what(raised(is_smaller, records, "al", "eve")), (UnknownName, {"name": "eve"}))
            self.assertEqual(what(raised(is_smaller, records, "dan", "eve")), (UnknownName, {"name": "dan"}))
        error = raised(is_smaller, (RECORD, THIRD, None), "dan", "eve")
        self.assertEqual(what(error), (InvalidRecord, {"index": 2}))


class RecordErrorsTest(unittest.TestCase):
    calls = ((find_order, ()), (count_orders, ()), (is_smaller, ("al", "bo")), (is_smaller, ("dan", None)))

    def check(self, records, index):
        for call, more in self.calls:
            error = raised(call, records, *more)
            self.assertEqual(what(error), (InvalidRecord, {"index": index}), (call, records))

    def test_wrong_elements(self):
        for value in WRONG_RECORDS:
            with self.subTest(value=value):
                self.check((value,), 0)
                self.check((RECORD, value), 1)
                self.check((RECORD, OTHER, value, None), 2)
                self.check((value, RECORD, value), 0)

    def test_no_tuple_of_records(self):
        for value in NO_RECORDS:
            with self.subTest(value=value):
                self.check(value, None)

    def test_other_names(self):
        strange = (CORNER, ("bo", "al", "di"), "R", ("al", "bo", "di"))
        for records, index in (((RECORD, strange), 1), ((strange, RECORD), 1), ((RECORD, OTHER, strange, strange), 2),
                               ((RECORD, PAIR), 1), ((PAIR, RECORD), 1), ((RECORD,) * 19 + (strange,), 19),
                               ((RECORD, strange, None), 1), ((RECORD, None, strange), 1),
                               ((strange, strange, LONGEST), 2)):
            self.check(records, index)

    def test_a_record_in_place_of_records(self):
        self.check(RECORD, 0)

    def test_twenty_records(self):
        self.assertEqual(find_order((RECORD,) * 20), ("al", "bo", "cy"))
        self.assertEqual(count_orders((RECORD,) * 10 + (OTHER,) * 10), 1)

    def test_names_in_another_order_are_the_same_names(self):
        self.assertIsNone(raised(find_order, (RECORD, OTHER, THIRD)))

    def test_by_position_and_by_name(self):
        draw = random.Random(302)
        for at in range(20):
            records = drawn_records(draw, 4, 2)
            self.assertEqual(find_order(records=records), find_order(records))
            self.assertEqual(count_orders(records=records), count_orders(records))
            self.assertEqual(comparisons(record=records[0]), comparisons(records[0]))
        self.assertIs(is_smaller(records=(RECORD,), one="al", other="bo"), True)
        self.assertIs(is_smaller(other="bo", one="al", records=(RECORD,)), True)
        self.assertIs(is_smaller((RECORD,), "al", other="bo"), True)

    def test_equal_calls_and_what_was_passed_stays(self):
        for records in samples_of_records():
            before = repr(records)
            again = tuple(tuple(list(record)) for record in records)
            self.assertEqual(find_order(records), find_order(again))
            self.assertEqual(count_orders(records), count_orders(again))
            self.assertEqual(repr(records), before)


if __name__ == "__main__":
    unittest.main()
