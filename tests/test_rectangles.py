import collections
import functools
import itertools
import math
import random
import unittest
from fractions import Fraction

from keepsort.errors import InvalidNumber, InvalidTable, InvalidWord
from keepsort.rectangles import chance, count_origins, count_sorted, in_last_rows, number_of, sorted_at
from samples import BAD_NUMBERS, raised, what

ALL_SIZES = [(rows, columns) for rows in range(1, 25) for columns in range(1, 25) if rows * columns <= 24]
WORDS = ("R", "C", "RC", "CR")
BAD_WORDS = ("", "r", "c", "RR", "CC", "RCR", "CRC", "RC ", " RC", "R C", "RC\n", "x", "RX", "R" * 401, "x" * 2000,
             None, 0, 1, True, (), ("R",), ("R", "C"), ["R"], b"R", b"RC", {"R"}, {"R": "C"}, object())

# Tuples of four elements that are no ranked tables of two rows and two columns, with the index of the fault.
TABLE_FAULTS = (
    ((0, 1, 2, 3), 0),
    ((1, 2, 3, 5), 3),
    ((5, 1, 2, 3), 0),
    ((1, -1, 0, 0), 1),
    ((1, 2, 10 ** 59, 4), 2),
    ((1, 2, 1, 3), 2),
    ((4, 4, 4, 4), 1),
    ((1, 2, 2, 9), 2),
    ((1, 2, 9, 2), 2),
    ((True, 2, 3, 4), 0),
    ((2, 3, 4, True), 3),
    ((1, True, 3, 4), 1),
    ((1, 2, 3, False), 3),
    ((1, None, 3, 4), 1),
    (("1", "2", "3", "4"), 0),
    ((1, 2, (3,), 4), 2),
    ((1, [2], 3, 4), 1),
    ((1, 2, {3}, 4), 2),
    ((1, b"2", 3, 4), 1),
    ((1, 2, 3, object()), 3),
)
NO_TABLES = ((), (1, 2, 3), (1, 2, 3, 4, 5), (0,) * 5, (True,) * 3, (None,) * 24, ((1, 2), (3, 4)), [1, 2, 3, 4], [],
             "1234", b"1234", None, True, 0, 4, 10 ** 59, {1, 2, 3, 4}, {1: 1, 2: 2, 3: 3, 4: 4}, range(1, 5), object())
ALL_TABLE_FAULTS = TABLE_FAULTS + tuple((value, None) for value in NO_TABLES)

BAD_SIDES = (0, -1, 25, 10 ** 59, -10 ** 59) + BAD_NUMBERS

CALLS = (
    (count_sorted, ("rows", "columns")),
    (sorted_at, ("rows", "columns", "number")),
    (number_of, ("rows", "columns", "table")),
    (count_origins, ("rows", "columns", "table", "word")),
    (chance, ("rows", "columns", "table", "word")),
    (in_last_rows, ("rows", "columns", "table", "limit", "count")),
)
GOOD = {"rows": 2, "columns": 2, "number": 1, "table": (1, 3, 2, 4), "word": "RC", "limit": 3, "count": 1}
WRONG = {"rows": (0, InvalidNumber, {"number": 0}), "columns": ("2", InvalidNumber, {"number": "2"}),
         "number": (None, InvalidNumber, {"number": None}), "table": ((1, 1, 2, 3), InvalidTable, {"index": 1}),
         "word": ("RCR", InvalidWord, {"index": None}), "limit": (True, InvalidNumber, {"number": True}),
         "count": (-7, InvalidNumber, {"number": -7})}


def sort_rows(rows, columns, table):
    return tuple(value for at in range(rows) for value in sorted(table[at * columns:at * columns + columns]))


def sort_columns(rows, columns, table):
    sides = [sorted(table[at::columns]) for at in range(columns)]
    return tuple(sides[column][row] for row in range(rows) for column in range(columns))


def after_word(rows, columns, table, word):
    for letter in word:
        table = (sort_rows if letter == "R" else sort_columns)(rows, columns, table)
    return table


def all_tables(rows, columns):
    return itertools.permutations(range(1, rows * columns + 1))


@functools.lru_cache(None)
def settled_tables(rows, columns):
    """All settled tables in ascending order, by a search through all tables."""
    def fits(table):
        return (all(table[at] < table[at + 1] for at in range(rows * columns - 1) if (at + 1) % columns)
                and all(table[at] < table[at + columns] for at in range(rows * columns - columns)))
    return [table for table in all_tables(rows, columns) if fits(table)]


@functools.lru_cache(None)
def origins(rows, columns, word):
    """How many tables the word turns into each table."""
    return collections.Counter(after_word(rows, columns, table, word) for table in all_tables(rows, columns))


def number_by_hooks(rows, columns):
    """The number of settled tables by the hook length formula."""
    hooks = [rows - row + columns - column - 1 for row in range(rows) for column in range(columns)]
    return math.factorial(rows * columns) // math.prod(hooks)


def drawn_table(draw, rows, columns):
    return tuple(draw.sample(range(1, rows * columns + 1), rows * columns))


def small_sizes(most):
    return [(rows, columns) for rows, columns in ALL_SIZES if rows * columns <= most]


class CountSortedTest(unittest.TestCase):
    def test_example_of_the_document(self):
        self.assertEqual([count_sorted(2, 3), count_sorted(4, 6)], [5, 140229804])

    def test_against_all_tables(self):
        for rows, columns in small_sizes(8) + [(3, 3)]:
            self.assertEqual(count_sorted(rows, columns), len(settled_tables(rows, columns)), (rows, columns))

    def test_against_the_hook_length_formula(self):
        for rows, columns in ALL_SIZES:
            self.assertEqual(count_sorted(rows, columns), number_by_hooks(rows, columns), (rows, columns))


class NumbersTest(unittest.TestCase):
    def test_examples_of_the_document(self):
        found = [sorted_at(2, 2, 0), sorted_at(2, 2, 1), sorted_at(2, 3, 4)]
        self.assertEqual(found, [(1, 2, 3, 4), (1, 3, 2, 4), (1, 3, 5, 2, 4, 6)])
        self.assertEqual(what(raised(sorted_at, 2, 2, 2)), (InvalidNumber, {"number": 2}))
        self.assertEqual(number_of(2, 3, (1, 3, 4, 2, 5, 6)), 3)

    def test_against_all_settled_tables(self):
        for rows, columns in small_sizes(8) + [(3, 3)]:
            wanted = settled_tables(rows, columns)
            found = [sorted_at(rows, columns, number) for number in range(len(wanted))]
            self.assertEqual(found, wanted, (rows, columns))
            numbers = [number_of(rows, columns, table) for table in wanted]
            self.assertEqual(numbers, list(range(len(wanted))), (rows, columns))

    def test_not_settled(self):
        for rows, columns in small_sizes(6):
            wanted = {table: number for number, table in enumerate(settled_tables(rows, columns))}
            for table in all_tables(rows, columns):
                self.assertEqual(number_of(rows, columns, table), wanted.get(table), (rows, columns, table))

    def test_sorted_for_one_kind_only(self):
        self.assertIsNone(number_of(2, 2, (3, 4, 1, 2)))
        self.assertIsNone(number_of(2, 2, (2, 1, 4, 3)))
        self.assertIsNone(number_of(1, 24, tuple(range(24, 0, -1))))
        self.assertIsNone(number_of(24, 1, (2, 1) + tuple(range(3, 25))))

    def test_one_row_and_one_column(self):
        for count in range(1, 25):
            wanted = tuple(range(1, count + 1))
            for rows, columns in ((1, count), (count, 1)):
                self.assertEqual(sorted_at(rows, columns, 0), wanted)
                self.assertEqual(number_of(rows, columns, wanted), 0)
                self.assertEqual(what(raised(sorted_at, rows, columns, 1)), (InvalidNumber, {"number": 1}))

    def test_first_and_last(self):
        for rows, columns in ALL_SIZES:
            first = tuple(range(1, rows * columns + 1))
            last = tuple(row + 1 + column * rows for row in range(rows) for column in range(columns))
            most = number_by_hooks(rows, columns) - 1
            self.assertEqual(sorted_at(rows, columns, 0), first)
            self.assertEqual(sorted_at(rows, columns, most), last)
            self.assertEqual(number_of(rows, columns, first), 0)
            self.assertEqual(number_of(rows, columns, last), most)
            for number in (most + 1, most + 2, -1, -most - 1, -most - 2, 10 ** 59, -10 ** 59):
                error = raised(sorted_at, rows, columns, number)
                self.assertEqual(what(error), (InvalidNumber, {"number": number}))

    def test_there_and_back(self):
        draw = random.Random(200)
        for rows, columns in ALL_SIZES:
            many = number_by_hooks(rows, columns)
            numbers = sorted({draw.randrange(many) for at in range(8)})
            tables = [sorted_at(rows, columns, number) for number in numbers]
            self.assertEqual(tables, sorted(set(tables)))
            for number, table in zip(numbers, tables):
                self.assertEqual(sorted(table), list(range(1, rows * columns + 1)))
                self.assertEqual(after_word(rows, columns, table, "RC"), table)
                self.assertEqual(sort_rows(rows, columns, table), table)
                self.assertEqual(number_of(rows, columns, table), number)

    def test_no_numbers(self):
        for number in BAD_NUMBERS:
            with self.subTest(number=number):
                error = raised(sorted_at, 2, 2, number)
                self.assertEqual(what(error), (InvalidNumber, {"number": number}))
                self.assertIs(error.number, number)

    def test_results(self):
        table = sorted_at(2, 3, 2)
        self.assertIs(type(table), tuple)
        self.assertEqual({type(value) for value in table}, {int})
        self.assertIs(type(number_of(2, 3, table)), int)


class OriginsTest(unittest.TestCase):
    def test_examples_of_the_document(self):
        found = [count_origins(2, 2, (1, 3, 2, 4), "RC"), count_origins(2, 2, (1, 2, 3, 4), "RC"),
                 count_origins(2, 2, (1, 2, 3, 4), "CR")]
        self.assertEqual(found, [16, 8, 16])
        self.assertEqual([chance(2, 2, (1, 3, 2, 4), "RC"), chance(2, 2, (2, 4, 1, 3), "RC")], [(2, 3), (0, 1)])

    def check(self, rows, columns, table, word, wanted):
        self.assertEqual(count_origins(rows, columns, table, word), wanted, (rows, columns, table, word))
        share = Fraction(wanted, math.factorial(rows * columns))
        found = chance(rows, columns, table, word)
        self.assertEqual(found, (share.numerator, share.denominator), (rows, columns, table, word))

    def test_against_all_tables(self):
        for rows, columns in small_sizes(6):
            for word in WORDS:
                wanted = origins(rows, columns, word)
                for table in all_tables(rows, columns):
                    self.check(rows, columns, table, word, wanted[table])

    def test_against_all_tables_of_larger_rectangles(self):
        draw = random.Random(210)
        for rows, columns in ((2, 4), (4, 2)):
            for word in WORDS:
                wanted = origins(rows, columns, word)
                for table in sorted(wanted)[::7] + [drawn_table(draw, rows, columns) for at in range(50)]:
                    self.check(rows, columns, table, word, wanted[table])
        for word in ("RC", "CR"):
            wanted = origins(3, 3, word)
            self.assertEqual(len(wanted), 42)
            for table in wanted:
                self.check(3, 3, table, word, wanted[table])

    def test_all_origins_together(self):
        for rows, columns in ((2, 5), (5, 2), (3, 4), (4, 3), (2, 6), (1, 12)):
            for word in ("RC", "CR"):
                numbers = range(count_sorted(rows, columns))
                many = sum(count_origins(rows, columns, sorted_at(rows, columns, number), word) for number in numbers)
                self.assertEqual(many, math.factorial(rows * columns), (rows, columns, word))

    def test_no_origins(self):
        # Sorted for one kind only, or for none.
        for table, wanted in (((3, 4, 1, 2), (4, 0, 0, 0)), ((2, 1, 4, 3), (0, 4, 0, 0)), ((4, 1, 3, 2), (0, 0, 0, 0))):
            for word, many in zip(WORDS, wanted):
                self.check(2, 2, table, word, many)

    def test_24_places(self):
        table = tuple(range(1, 25))
        self.check(4, 6, table, "R", math.factorial(6) ** 4)
        self.check(4, 6, table, "C", math.factorial(4) ** 6)
        # Each row lies below the next one, so the columns can only be put in order as wholes.
        self.check(4, 6, table, "RC", math.factorial(6) ** 4 * math.factorial(4))
        self.check(4, 6, table, "CR", math.factorial(4) ** 6 * math.factorial(6) ** 4)
        draw = random.Random(211)
        for rows, columns in ((4, 6), (6, 4), (3, 8), (2, 12), (24, 1), (1, 24)):
            for at in range(10):
                table = sorted_at(rows, columns, draw.randrange(count_sorted(rows, columns)))
                for word in WORDS:
                    many = count_origins(rows, columns, table, word)
                    self.assertGreater(many, 0)
                    self.check(rows, columns, table, word, many)

    def test_one_row_and_one_column(self):
        for count in (1, 2, 7, 24):
            table = tuple(range(1, count + 1))
            for rows, columns, idle in ((1, count, "C"), (count, 1, "R")):
                for word in WORDS:
                    self.check(rows, columns, table, word, 1 if word == idle else math.factorial(count))
        self.check(1, 3, (2, 1, 3), "C", 1)
        self.check(3, 1, (2, 1, 3), "R", 1)
        self.check(1, 3, (2, 1, 3), "R", 0)

    def test_turned_round(self):
        draw = random.Random(212)
        for rows, columns in ALL_SIZES:
            table = sorted_at(rows, columns, draw.randrange(count_sorted(rows, columns)))
            turned = tuple(value for at in range(columns) for value in table[at::columns])
            for word, other in zip(WORDS, ("C", "R", "CR", "RC")):
                self.check(columns, rows, turned, other, count_origins(rows, columns, table, word))

    def test_results(self):
        for table in ((1, 3, 2, 4), (4, 3, 2, 1)):
            self.assertIs(type(count_origins(2, 2, table, "RC")), int)
            found = chance(2, 2, table, "RC")
            self.assertEqual([type(found), type(found[0]), type(found[1])], [tuple, int, int])


class InLastRowsTest(unittest.TestCase):
    def test_example_of_the_document(self):
        found = [in_last_rows(2, 2, (1, 3, 2, 4), 3, 1), in_last_rows(2, 2, (1, 2, 3, 4), 3, 1)]
        self.assertEqual(found, [1, 2])

    def test_against_a_count(self):
        draw = random.Random(220)
        for rows, columns in ALL_SIZES:
            table = drawn_table(draw, rows, columns)
            for count in range(rows + 1):
                size = rows * columns
                for limit in (-10 ** 59, -1, 0, 1, 2, size // 2, size, size + 1, 10 ** 59):
                    wanted = 0
                    for row in range(rows - count, rows):
                        for column in range(columns):
                            wanted += 1 if table[row * columns + column] >= limit else 0
                    self.assertEqual(in_last_rows(rows, columns, table, limit, count), wanted)

    def test_ends(self):
        for rows, columns in ALL_SIZES:
            table = tuple(range(1, rows * columns + 1))
            self.assertEqual(in_last_rows(rows, columns, table, 1, 0), 0)
            self.assertEqual(in_last_rows(rows, columns, table, 1, rows), rows * columns)
            self.assertEqual(in_last_rows(rows, columns, table, -5, 1), columns)
            self.assertEqual(in_last_rows(rows, columns, table, rows * columns + 1, rows), 0)

    def test_columns_first_brings_more_down(self):
        draw = random.Random(221)
        for rows, columns in ALL_SIZES:
            for at in range(5):
                table = drawn_table(draw, rows, columns)
                one = after_word(rows, columns, table, "CR")
                other = after_word(rows, columns, table, "RC")
                for count in range(rows + 1):
                    for limit in range(0, rows * columns + 2):
                        more = in_last_rows(rows, columns, one, limit, count)
                        self.assertGreaterEqual(more, in_last_rows(rows, columns, other, limit, count))

    def test_invalid_limit(self):
        for limit in BAD_NUMBERS:
            for count in (1, 0, 3, None, True):
                with self.subTest(limit=limit, count=count):
                    error = raised(in_last_rows, 2, 2, (1, 3, 2, 4), limit, count)
                    self.assertEqual(what(error), (InvalidNumber, {"number": limit}))
                    self.assertIs(error.number, limit)

    def test_invalid_count(self):
        for count in (-1, 3, 10 ** 59, -10 ** 59) + BAD_NUMBERS:
            with self.subTest(count=count):
                error = raised(in_last_rows, 2, 2, (1, 3, 2, 4), 3, count)
                self.assertEqual(what(error), (InvalidNumber, {"number": count}))
        for rows, columns in ALL_SIZES:
            table = tuple(range(1, rows * columns + 1))
            for count in (-1, rows + 1):
                error = raised(in_last_rows, rows, columns, table, 3, count)
                self.assertEqual(what(error), (InvalidNumber, {"number": count}))


class RectangleErrorsTest(unittest.TestCase):
    def test_invalid_rows_and_columns(self):
        for call, names in CALLS:
            for value in BAD_SIDES:
                good = {name: GOOD[name] for name in names}
                wrong = {name: WRONG[name][0] for name in names}
                for others in (good, wrong):
                    with self.subTest(call=call, value=value, others=others):
                        error = raised(call, **{**others, "rows": value})
                        self.assertEqual(what(error), (InvalidNumber, {"number": value}))
                        self.assertIs(error.number, value)
                        error = raised(call, **{**others, "rows": 2, "columns": value})
                        self.assertEqual(what(error), (InvalidNumber, {"number": value}))
                        self.assertIs(error.number, value)

    def test_too_many_places(self):
        for call, names in CALLS:
            for rows, columns in ((2, 13), (13, 2), (5, 5), (24, 2), (2, 24), (24, 24), (4, 7), (7, 4)):
                others = {name: WRONG[name][0] for name in names}
                error = raised(call, **{**others, "rows": rows, "columns": columns})
                self.assertEqual(what(error), (InvalidNumber, {"number": columns}), (call, rows, columns))
                error = raised(call, *([rows, columns] + [GOOD[name] for name in names[2:]]))
                self.assertEqual(what(error), (InvalidNumber, {"number": columns}), (call, rows, columns))

    def test_errors_of_the_sides_come_before_the_number(self):
        for number in (0, 2, -1, None, True, "1"):
            self.assertEqual(what(raised(sorted_at, 2, 0, number)), (InvalidNumber, {"number": 0}))
            self.assertEqual(what(raised(sorted_at, 25, 0, number)), (InvalidNumber, {"number": 25}))
            self.assertEqual(what(raised(sorted_at, 5, 5, number)), (InvalidNumber, {"number": 5}))

    def test_invalid_table(self):
        for value, index in ALL_TABLE_FAULTS:
            for call, names in CALLS[2:]:
                good = {name: GOOD[name] for name in names}
                wrong = {name: WRONG[name][0] for name in names[3:]}
                for others in (good, {**good, **wrong}):
                    with self.subTest(call=call, value=value, others=others):
                        error = raised(call, **{**others, "table": value})
                        self.assertEqual(what(error), (InvalidTable, {"index": index}))

    def test_tables_of_other_rectangles(self):
        for call, names in CALLS[2:]:
            more = [GOOD[name] for name in names[3:]]
            for rows, columns in ((1, 3), (3, 2), (24, 1)):
                error = raised(call, rows, columns, (1, 2, 3, 4), *more)
                self.assertEqual(what(error), (InvalidTable, {"index": None}))
            # The number of elements counts, not the sides.
            self.assertIsNone(raised(call, 1, 4, (1, 2, 3, 4), *more))
            self.assertIsNone(raised(call, 4, 1, (1, 2, 3, 4), *more))

    def test_invalid_word(self):
        for call in (count_origins, chance):
            for word in BAD_WORDS:
                for table in ((1, 3, 2, 4), (4, 3, 2, 1)):
                    with self.subTest(call=call, word=word, table=table):
                        error = raised(call, 2, 2, table, word)
                        self.assertEqual(what(error), (InvalidWord, {"index": None}))

    def test_two_faults_in_the_order_of_the_parameters(self):
        for call, names in CALLS:
            for first, second in itertools.combinations(names, 2):
                passed = {name: GOOD[name] for name in names}
                passed[second] = WRONG[second][0]
                passed[first] = WRONG[first][0]
                turned = {name: passed[name] for name in reversed(names)}
                self.assertEqual(what(raised(call, **turned)), WRONG[first][1:], (call, first, second))

    def test_each_fault_alone(self):
        for call, names in CALLS:
            for name in names:
                passed = {each: GOOD[each] for each in names}
                passed[name] = WRONG[name][0]
                self.assertEqual(what(raised(call, **passed)), WRONG[name][1:], (call, name))

    def test_by_position_and_by_name(self):
        for call, names in CALLS:
            wanted = call(*[GOOD[name] for name in names])
            self.assertEqual(call(**{name: GOOD[name] for name in names}), wanted)
            self.assertEqual(call(**{name: GOOD[name] for name in reversed(names)}), wanted)
            self.assertEqual(call(*[GOOD[name] for name in names]), wanted)

    def test_true_raises_even_after_the_equal_call(self):
        self.assertEqual(count_sorted(1, 2), 1)
        self.assertEqual(what(raised(count_sorted, True, 2)), (InvalidNumber, {"number": True}))
        self.assertEqual(number_of(1, 2, (1, 2)), 0)
        self.assertEqual(what(raised(number_of, 1, 2, (True, 2))), (InvalidTable, {"index": 0}))


if __name__ == "__main__":
    unittest.main()
