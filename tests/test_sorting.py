import itertools
import random
import unittest

from keepsort.errors import InvalidFilling, InvalidKind, InvalidPlan, InvalidWord
from keepsort.plans import is_plan, transposed
from keepsort.sorting import after, is_sorted, rest, sort_lines
from samples import (ALL_FILLING_FAULTS, ALL_PLAN_FAULTS, BAD_KINDS, FULL, PLAN, SKEW, SQUARE, STAIRS, WORD_FAULTS,
                     after_by_hand, all_fillings, block, drawn_filling, drawn_plans, drawn_tables, drawn_word,
                     is_sorted_by_hand, raised, small_plans, sort_by_hand, what)

KIND_CALLS = (sort_lines, is_sorted, rest)

EDGE_PLANS = (
    ((0, 0),),
    ((7, 7),),
    block([5], range(8)),
    block(range(8), [2]),
    ((3, 0), (3, 2), (3, 7)),
    ((0, 4), (5, 4), (7, 4)),
    ((0, 0), (7, 7)),
    ((0, 7), (7, 0)),
    FULL,
    transposed(FULL),
    block(range(4), range(2, 8)),
    block((0, 2, 5, 7), (0, 1, 3, 4, 6, 7)),
    PLAN,
    SKEW,
    SQUARE,
    STAIRS,
)


def tables():
    draw = random.Random(4)
    for plan in EDGE_PLANS:
        yield plan, tuple(range(1, len(plan) + 1))
        yield plan, tuple(range(len(plan), 0, -1))
        yield plan, tuple(range(9999, 9999 - len(plan), -1))
        for at in range(5):
            yield plan, drawn_filling(draw, plan)
    yield from drawn_tables(5, 300)


def rest_by_hand(plan, filling, kind):
    count = 0
    while not (is_sorted_by_hand(plan, filling, "R") and is_sorted_by_hand(plan, filling, "C")):
        filling = sort_by_hand(plan, filling, kind)
        kind = {"R": "C", "C": "R"}[kind]
        count += 1
    return count, filling


class SortLinesTest(unittest.TestCase):
    def test_examples_of_the_document(self):
        found = [sort_lines(SQUARE, (4, 1, 3, 2), "R"), sort_lines(SQUARE, (4, 1, 3, 2), "C")]
        self.assertEqual(found, [(1, 4, 2, 3), (3, 1, 4, 2)])
        self.assertEqual(sort_lines(PLAN, (2, 3, 1, 4), "C"), (2, 1, 3, 4))

    def test_example_of_the_document_that_raises(self):
        self.assertEqual(what(raised(sort_lines, ((0, 0),), (1,), "r")), (InvalidKind, {"kind": "r"}))

    def test_against_sorts_by_hand(self):
        for plan, filling in tables():
            for kind in "RC":
                found = sort_lines(plan, filling, kind)
                self.assertEqual(found, sort_by_hand(plan, filling, kind), (plan, filling, kind))
                self.assertIs(type(found), tuple)

    def test_all_fillings_of_small_plans(self):
        for plan in (((0, 0), (0, 1)), PLAN, SKEW, SQUARE, ((0, 3), (2, 0), (2, 3), (6, 0), (6, 7))):
            for filling in all_fillings(plan):
                for kind in "RC":
                    self.assertEqual(sort_lines(plan, filling, kind), sort_by_hand(plan, filling, kind))

    def test_one_row_and_one_column(self):
        filling = (8, 3, 5, 1, 7, 2, 6, 4)
        for plan, kind, other in ((block([6], range(8)), "R", "C"), (block(range(8), [6]), "C", "R")):
            self.assertEqual(sort_lines(plan, filling, kind), (1, 2, 3, 4, 5, 6, 7, 8))
            self.assertEqual(sort_lines(plan, filling, other), filling)

    def test_values_next_to_each_other_in_number_and_in_text(self):
        self.assertEqual(sort_lines(((0, 0), (0, 1), (0, 2)), (1000, 9, 10), "R"), (9, 10, 1000))

    def test_what_was_passed_stays_as_it_was(self):
        for plan, filling in tables():
            cells, values = list(plan), list(filling)
            for kind in "RC":
                sort_lines(plan, filling, kind)
            self.assertEqual((list(plan), list(filling)), (cells, values))


class AfterTest(unittest.TestCase):
    def test_examples_of_the_document(self):
        found = [after(SQUARE, (1, 4, 3, 2), "RC"), after(SQUARE, (1, 4, 3, 2), "CR")]
        self.assertEqual(found, [(1, 3, 2, 4), (1, 2, 3, 4)])

    def test_example_of_the_document_that_raises(self):
        self.assertEqual(what(raised(after, SQUARE, (1, 4, 3, 2), "RCX")), (InvalidWord, {"index": 2}))

    def test_no_letters(self):
        for plan, filling in tables():
            self.assertEqual(after(plan, filling, ""), filling)

    def test_one_letter(self):
        for plan, filling in tables():
            for kind in "RC":
                self.assertEqual(after(plan, filling, kind), sort_by_hand(plan, filling, kind))

    def test_mixed_words(self):
        draw = random.Random(6)
        for plan, filling in tables():
            word = drawn_word(draw, 12)
            found = after(plan, filling, word)
            self.assertEqual(found, after_by_hand(plan, filling, word), (plan, filling, word))
            self.assertIs(type(found), tuple)

    def test_all_short_words(self):
        words = ["".join(letters) for size in range(6) for letters in itertools.product("RC", repeat=size)]
        for plan, filling in ((PLAN, (4, 3, 2, 1)), (STAIRS, tuple(range(15, 0, -1))), (SQUARE, (4, 1, 3, 2))):
            for word in words:
                self.assertEqual(after(plan, filling, word), after_by_hand(plan, filling, word), (plan, word))

    def test_400_letters(self):
        for plan, filling in ((FULL, tuple(range(24, 0, -1))), (STAIRS, tuple(range(15, 0, -1))), (PLAN, (2, 3, 1, 4))):
            for word in ("RC" * 200, "CR" * 200, "R" * 400, "C" * 400, "R" * 399 + "C"):
                self.assertEqual(after(plan, filling, word), after_by_hand(plan, filling, word), (plan, word))

    def test_last_letter_of_a_long_word(self):
        filling = (1, 4, 3, 2)
        self.assertEqual(after(SQUARE, filling, "C" * 399 + "R"), after_by_hand(SQUARE, filling, "CR"))
        self.assertEqual(after(SQUARE, filling, "R" * 399 + "C"), after_by_hand(SQUARE, filling, "RC"))

    def test_invalid_word(self):
        for word, index in WORD_FAULTS:
            with self.subTest(word=word):
                wanted = (InvalidWord, {"index": index})
                self.assertEqual(what(raised(after, PLAN, (1, 2, 3, 4), word)), wanted)
                self.assertEqual(what(raised(after, word=word, filling=(1, 2, 3, 4), plan=PLAN)), wanted)

    def test_by_name(self):
        wanted = (1, 3, 2, 4)
        self.assertEqual(after(plan=SQUARE, filling=(1, 4, 3, 2), word="RC"), wanted)
        self.assertEqual(after(word="RC", filling=(1, 4, 3, 2), plan=SQUARE), wanted)
        self.assertEqual(after(SQUARE, (1, 4, 3, 2), word="RC"), wanted)


class IsSortedTest(unittest.TestCase):
    def test_example_of_the_document(self):
        found = [is_sorted(SQUARE, (1, 4, 2, 3), "R"), is_sorted(SQUARE, (1, 4, 2, 3), "C")]
        self.assertEqual(found, [True, False])

    def test_by_definition(self):
        for plan, filling in tables():
            for kind in "RC":
                for table in (filling, sort_by_hand(plan, filling, kind)):
                    self.assertIs(is_sorted(plan, table, kind), is_sorted_by_hand(plan, table, kind))

    def test_all_fillings_of_small_plans(self):
        for plan in (PLAN, SKEW, SQUARE, ((0, 0), (0, 5), (0, 7))):
            for filling in all_fillings(plan):
                for kind in "RC":
                    self.assertIs(is_sorted(plan, filling, kind), is_sorted_by_hand(plan, filling, kind))

    def test_one_pair_out_of_order_in_24_cells(self):
        for at in range(23):
            values = list(range(1, 25))
            values[at], values[at + 1] = values[at + 1], values[at]
            self.assertIs(is_sorted(FULL, tuple(values), "R"), at in (7, 15))
            self.assertIs(is_sorted(FULL, tuple(values), "C"), True)


class RestTest(unittest.TestCase):
    def test_example_of_the_document(self):
        found = [rest(PLAN, (2, 3, 1, 4), "C"), rest(PLAN, (2, 3, 1, 4), "R"), rest(PLAN, (1, 2, 3, 4), "R")]
        self.assertEqual(found, [(2, (1, 2, 3, 4)), (3, (1, 2, 3, 4)), (0, (1, 2, 3, 4))])

    def test_against_sorts_by_hand(self):
        for plan, filling in tables():
            for kind in "RC":
                found = rest(plan, filling, kind)
                self.assertEqual(found, rest_by_hand(plan, filling, kind), (plan, filling, kind))
                self.assertIs(type(found), tuple)
                self.assertIs(type(found[0]), int)

    def test_all_fillings_of_small_plans(self):
        for plan in (PLAN, SKEW, SQUARE, ((0, 0), (0, 1)), ((2, 2), (4, 2)), ((1, 1),)):
            for filling in all_fillings(plan):
                for kind in "RC":
                    self.assertEqual(rest(plan, filling, kind), rest_by_hand(plan, filling, kind))

    def test_settled_tables(self):
        for plan, filling in tables():
            settled = rest(plan, filling, "R")[1]
            for kind in "RC":
                self.assertEqual(rest(plan, settled, kind), (0, settled))

    def test_after_one_sort(self):
        # On a plan that keeps, the second sort settles the table, whichever kind the first one is of.
        for filling in all_fillings(SQUARE):
            for kind, other in ("RC", "CR"):
                once = sort_by_hand(SQUARE, filling, kind)
                wanted = 0 if is_sorted_by_hand(SQUARE, once, other) else 1
                self.assertEqual(rest(SQUARE, once, other)[0], wanted)
                self.assertEqual(rest(SQUARE, once, kind)[0], 2 * wanted)

    def test_one_row_from_either_kind(self):
        self.assertEqual(rest(((0, 0), (0, 1)), (2, 1), "R"), (1, (1, 2)))
        self.assertEqual(rest(((0, 0), (0, 1)), (2, 1), "C"), (2, (1, 2)))
        self.assertEqual(rest(((0, 0), (1, 0)), (2, 1), "C"), (1, (1, 2)))
        self.assertEqual(rest(((0, 0), (1, 0)), (2, 1), "R"), (2, (1, 2)))

    def test_path_of_fifteen_cells_with_descending_values(self):
        self.assertEqual(len(STAIRS), 15)
        self.assertIs(is_plan(STAIRS), True)
        down = tuple(range(15, 0, -1))
        for plan in (STAIRS, transposed(STAIRS)):
            for kind in "RC":
                self.assertEqual(rest(plan, down, kind), (15, tuple(range(1, 16))))
                self.assertEqual(rest_by_hand(plan, down, kind), (15, tuple(range(1, 16))))

    def test_it_is_the_least_number(self):
        for plan, filling in drawn_tables(7, 100):
            for kind, other in ("RC", "CR"):
                count, table = rest(plan, filling, kind)
                word = ((kind + other) * count)[:count]
                self.assertEqual(after(plan, filling, word), table)
                for less in range(count):
                    early = after(plan, filling, word[:less])
                    self.assertIs(is_sorted(plan, early, "R") and is_sorted(plan, early, "C"), False)


class ErrorsTest(unittest.TestCase):
    def test_invalid_plan_comes_first(self):
        for call in KIND_CALLS + (after,):
            for value, index in ALL_PLAN_FAULTS:
                for filling, last in (((1, 2, 3, 4), "R"), (None, "R"), ((1, 2, 3, 4), "x"), ([1], None)):
                    with self.subTest(call=call.__name__, value=value, filling=filling, last=last):
                        error = raised(call, value, filling, last)
                        self.assertEqual(what(error), (InvalidPlan, {"index": index}))

    def test_invalid_filling_comes_before_invalid_kind_and_invalid_word(self):
        for call in KIND_CALLS + (after,):
            for value, index in ALL_FILLING_FAULTS:
                for last in ("R", "x", None, "R" * 401):
                    with self.subTest(call=call.__name__, value=value, last=last):
                        error = raised(call, SQUARE, value, last)
                        self.assertEqual(what(error), (InvalidFilling, {"index": index}))

    def test_invalid_kind(self):
        for call in KIND_CALLS:
            for kind in BAD_KINDS:
                with self.subTest(call=call.__name__, kind=kind):
                    for error in (raised(call, PLAN, (4, 3, 2, 1), kind), raised(call, PLAN, (1, 2, 3, 4), kind),
                                  raised(call, kind=kind, filling=(4, 3, 2, 1), plan=PLAN)):
                        self.assertIs(type(error), InvalidKind)
                        self.assertIs(error.kind, kind)

    def test_true_raises_even_after_the_equal_call(self):
        for call in KIND_CALLS:
            first = call(PLAN, (2, 3, 1, 4), "C")
            error = raised(call, PLAN, (2, 3, True, 4), "C")
            self.assertEqual(what(error), (InvalidFilling, {"index": 2}))
            error = raised(call, ((0, 0), (0, True), (1, 1), (2, 0)), (2, 3, 1, 4), "C")
            self.assertEqual(what(error), (InvalidPlan, {"index": 1}))
            self.assertEqual(call(PLAN, (2, 3, 1, 4), "C"), first)


class AllFunctionsTest(unittest.TestCase):
    def test_by_name(self):
        for call in KIND_CALLS:
            for kind in "RC":
                wanted = call(PLAN, (2, 3, 1, 4), kind)
                self.assertEqual(call(plan=PLAN, filling=(2, 3, 1, 4), kind=kind), wanted)
                self.assertEqual(call(kind=kind, filling=(2, 3, 1, 4), plan=PLAN), wanted)
                self.assertEqual(call(PLAN, (2, 3, 1, 4), kind=kind), wanted)

    def test_equal_calls_return_equal_results(self):
        for plan, filling in drawn_tables(8, 40):
            for call in KIND_CALLS + (after,):
                for last in "RC":
                    first = call(plan, filling, last)
                    self.assertEqual(call(tuple(list(plan)), tuple(list(filling)), last), first)

    def test_transposed_plans_exchange_the_kinds(self):
        for plan in drawn_plans(9, 60):
            turned = transposed(plan)
            filling = drawn_filling(random.Random(len(plan)), plan)
            other = tuple(filling[plan.index(cell[::-1])] for cell in turned)
            for kind, change in ("RC", "CR"):
                back = sort_lines(turned, other, change)
                found = tuple(back[turned.index(cell[::-1])] for cell in plan)
                self.assertEqual(sort_lines(plan, filling, kind), found)

    def test_a_sort_leaves_settled_tables_and_itself(self):
        for plan in itertools.islice(small_plans(), 0, None, 7):
            filling = tuple(range(len(plan), 0, -1))
            for kind in "RC":
                once = sort_lines(plan, filling, kind)
                self.assertIs(is_sorted(plan, once, kind), True)
                self.assertEqual(sort_lines(plan, once, kind), once)

    def test_arguments_are_not_modified(self):
        values = [4, 3, 2, 1]
        inner = [3]
        for call in KIND_CALLS + (after,):
            raised(call, PLAN, values, "R")
            raised(call, PLAN, (4, inner, 2, 1), "R")
        self.assertEqual((values, inner), ([4, 3, 2, 1], [3]))


if __name__ == "__main__":
    unittest.main()
