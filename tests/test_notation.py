import unittest

from keepsort.errors import InvalidFilling, InvalidPlan, InvalidProgram, InvalidText
from keepsort.notation import format_program, format_table, parse_program, parse_table
from keepsort.plans import transposed
from keepsort.programs import is_program
from samples import (ALL_FILLING_FAULTS, ALL_PLAN_FAULTS, ALL_PROGRAM_FAULTS, FULL, PLAN, PROGRAMS, SQUARE, STAIRS,
                     block, drawn_programs, drawn_tables, nested, raised, what)

BIG = 10 ** 30

NO_TEXTS = (None, True, False, 0, 5, 10 ** 59, (), ("R",), (5,), [], ["R"], b"", b"R", b"5", {}, {"R"}, {"R": 1},
            object())

# Programs with their written forms.
WRITTEN_PROGRAMS = (
    ((), ""),
    (("R",), "R"),
    (("RCCR", "C"), "RCCR C"),
    (("RRC", ("repeat", 1000, ("RC", "C"))), "RRC ( RC C )x1000"),
    (("R", ("repeat", 3, ()), "CC"), "R ( )x3 CC"),
    ((("repeat", 1, ()),), "( )x1"),
    ((("repeat", BIG, ("R",)),), "( R )x1000000000000000000000000000000"),
    ((("repeat", 10, (("repeat", 9, ()),)),), "( ( )x9 )x10"),
    ((("repeat", 2, (("repeat", 3, ("C",)), "R", ("repeat", 4, ()))), "C"), "( ( C )x3 R ( )x4 )x2 C"),
    (nested(5), "( ( ( ( R )x2 )x2 )x2 )x2"),
    (nested(5, ""), "( ( ( ( )x2 )x2 )x2 )x2"),
    (("R",) * 60, " ".join(["R"] * 60)),
    (("C" * 400,), "C" * 400),
    ((("repeat", 2, ()),) * 60, " ".join(["( )x2"] * 60)),
)

NO_WRITTEN_PROGRAMS = (
    "R  C", " R", "R ", " ", "  ", " ( )x3", "( )x3 ", "(  )x3", "( R  C )x3", "(  R )x3", "( R  )x3", "( )x3  R",
    "( )x03", "( )x003", "( )x00", "( )x+3", "( )x-3", "( )x0", "( R )x0", "( )x-0", "( )x", "( )x 3", "( ) x3",
    "( )", "( ) 3", "()x3", "( R)x3", "(R )x3", "(R)x3", "( R )X3", "( R )x3C", "( R )x3x2", "( R )x3)x2", "( R )3",
    "( R )x1_000", "( R )x1.0", "( R )x1e3", "( R )x0x3", "( R )xR", "( R )x3.", "( R )xx3",
    "( R )x" + str(BIG + 1), "( )x" + str(BIG + 1), "( R )x" + "9" * 31, "( R )x" + "9" * 32, "( R )x" + "9" * 1900,
    "( R )x" + "9" * 5000, "( R )x0" + str(BIG), "( R )x" + "0" * 100 + "3",
    "(", ")x2", ")", "R (", "R )x2", "( R", "( R )x3 )x2", "( ( R )x2", ")x2 (", ")x2 R (", "( R )x2 (", "R ( C",
    "( )x2 )x2 (", "( ( ( R )x2 )x2", "x3", "xR",
    "R\nC", "\n", "R\n", "\nR", "( \n )x3", "(\n)x3", "( )\nx3", "( )x3\n", "( R )x3\nC", "( R )x\n3", "( R\n)x3",
    "R" * 401, "C" * 2000, "R " + "RC" * 200 + "R", "( " + "R" * 401 + " )x2",
    " ".join(["R"] * 61), " ".join(["( )x2"] * 61), "( " + " ".join(["R"] * 60) + " )x2", " ".join(["R"] * 1000),
    "( ( ( ( ( R )x2 )x2 )x2 )x2 )x2", "( ( ( ( ( )x2 )x2 )x2 )x2 )x2", "( " * 200 + "R" + " )x1" * 200, "( " * 999,
    " ".join(["("] * 250 + [")x1"] * 250),
    "r", "c", "X", "RXC", "R.C", "RCr", ".", "5", "R 5", "repeat", "repeat 3 R", "('R',)", "R,C", "~", "!", "-",
)

# Tables with their written forms.
WRITTEN_TABLES = (
    (PLAN, (20, 3, 1, 400), "20 3\n. 1\n400 ."),
    (((0, 1), (1, 0), (1, 1)), (7, 5, 6), ". 7\n5 6"),
    (((0, 0),), (1,), "1"),
    (((0, 0),), (9999,), "9999"),
    (((0, 1),), (7,), ". 7"),
    (((1, 0),), (7,), ".\n7"),
    (((2, 2),), (10,), ". . .\n. . .\n. . 10"),
    (((0, 7),), (5,), ". . . . . . . 5"),
    (((7, 0),), (5,), ".\n.\n.\n.\n.\n.\n.\n5"),
    (((0, 3), (2, 0)), (4, 3), ". . . 4\n. . . .\n3 . . ."),
    (((7, 7),), (5,), "\n".join([". . . . . . . ."] * 7 + [". . . . . . . 5"])),
    (FULL, tuple(range(24, 0, -1)), "24 23 22 21 20 19 18 17\n16 15 14 13 12 11 10 9\n8 7 6 5 4 3 2 1"),
)

NO_WRITTEN_TABLES = (
    "", ".", ". .", ".\n.", " ", "\n", "  ", "\n\n",
    "7 .", "7\n.", "7 . .", "7 .\n8 .", ". .\n7 .", "7 8\n. .", "7\n.\n.", "7 8 .\n9 . .", ". 7\n. .",
    "07", "0", "00", "0 1", "1 02", "007", "10000", "99999", "1 10000", "12345678901234567890", "9" * 1900, "9" * 5000,
    "5 5", "5\n5", "1 2\n3 1", "+5", "-5", "- 5", "5-", "1_0", "1e3", "1.0", "5.", ".5", "..", "5 ..", "a", "5 a",
    "0x5", "R", "5,6", "~ 5", "5 ~", "x\n5",
    "5 ", " 5", "5  6", "5\n", "\n5", "5\n\n6", " . 5", ". 5 ", "5 6\n", "5 6 \n7 8", "5 6\n 7 8", ". \n5", ".  5",
    "1 2\n3", "1\n2 3", "1 2\n3 4 5", "1 2 3\n4 5\n6 7 8", ". 2\n3", "1 2\n.", ".\n1 2", "1 2\n3\n4 5",
    ". . . . . . . . 5", "1 . . . . . . . 5", "1 2 3 4 5 6 7 8 9",
    "\n".join(["."] * 8 + ["5"]), "\n".join("123456789"), "\n".join([". ."] * 8 + [". 5"]),
    "\n".join(" ".join(str(5 * row + column + 1) for column in range(5)) for row in range(5)),
    "\n".join(" ".join(str(8 * row + column + 1) for column in range(8)) for row in range(8)),
    "1 2 3 4 5 6 7 8\n9 10 11 12 13 14 15 16\n17 18 19 20 21 22 23 24\n25 . . . . . . .",
)


def table_by_hand(plan, filling):
    values = dict(zip(plan, filling))
    height = max(row for row, column in plan) + 1
    width = max(column for row, column in plan) + 1
    text = ""
    for row in range(height):
        for column in range(width):
            text += str(values[row, column]) if (row, column) in values else "."
            text += " " if column < width - 1 else "\n"
    return text[:-1]


class FormatProgramTest(unittest.TestCase):
    def test_example_of_the_document(self):
        self.assertEqual(format_program(("RRC", ("repeat", 1000, ("RC", "C")))), "RRC ( RC C )x1000")

    def test_written_forms(self):
        for program, text in WRITTEN_PROGRAMS:
            with self.subTest(text=text):
                self.assertEqual(format_program(program), text)

    def test_more_than_2000_characters(self):
        program = ("RC" * 200,) * 59 + (("repeat", BIG, ()),)
        text = format_program(program)
        self.assertEqual(len(text), 59 * 401 + 35)
        self.assertEqual(parse_program(text), program)

    def test_invalid_program(self):
        for value, index in ALL_PROGRAM_FAULTS:
            with self.subTest(value=value):
                wanted = (InvalidProgram, {"index": index})
                self.assertEqual(what(raised(format_program, value)), wanted)
                self.assertEqual(what(raised(format_program, program=value)), wanted)

    def test_true_raises_even_after_the_equal_call(self):
        self.assertEqual(format_program((("repeat", 1, ("R",)),)), "( R )x1")
        error = raised(format_program, (("repeat", True, ("R",)),))
        self.assertEqual(what(error), (InvalidProgram, {"index": 0}))

    def test_by_name(self):
        self.assertEqual(format_program(program=("R", "C")), "R C")


class ParseProgramTest(unittest.TestCase):
    def test_example_of_the_document(self):
        self.assertEqual(parse_program("R ( )x3 CC"), ("R", ("repeat", 3, ()), "CC"))

    def test_example_of_the_document_that_raises(self):
        self.assertEqual(what(raised(parse_program, "R  C")), (InvalidText, {"text": "R  C"}))

    def test_written_forms(self):
        for program, text in WRITTEN_PROGRAMS:
            with self.subTest(text=text):
                self.assertEqual(parse_program(text), program)

    def test_there_and_back(self):
        for program in drawn_programs(30, 400, (1, 2, 10, 999, BIG - 1, BIG)) + list(PROGRAMS):
            text = format_program(program)
            found = parse_program(text)
            self.assertEqual(found, program)
            self.assertEqual(format_program(found), text)

    def test_results_are_programs(self):
        for program, text in WRITTEN_PROGRAMS:
            self.assertIs(is_program(parse_program(text)), True)

    def test_other_texts(self):
        for text in NO_WRITTEN_PROGRAMS:
            with self.subTest(text=text):
                self.assertEqual(what(raised(parse_program, text)), (InvalidText, {"text": text}))
                self.assertEqual(what(raised(parse_program, text=text)), (InvalidText, {"text": text}))

    def test_texts_with_one_character_too_many_or_too_few(self):
        for program, text in WRITTEN_PROGRAMS[:9]:
            for at in range(len(text) + 1):
                changed = [text[:at] + sign + text[at:] for sign in " ()x0.R\n"] + [text[:at] + text[at + 1:]]
                for other in changed:
                    error = raised(parse_program, other)
                    if error is None:
                        self.assertEqual(format_program(parse_program(other)), other)
                    else:
                        self.assertEqual(what(error), (InvalidText, {"text": other}))

    def test_no_strings(self):
        for text in NO_TEXTS:
            with self.subTest(text=text):
                error = raised(parse_program, text)
                self.assertIs(type(error), InvalidText)
                self.assertIs(error.text, text)

    def test_by_name(self):
        self.assertEqual(parse_program(text="R C"), ("R", "C"))


class FormatTableTest(unittest.TestCase):
    def test_example_of_the_document(self):
        self.assertEqual(format_table(PLAN, (20, 3, 1, 400)), "20 3\n. 1\n400 .")

    def test_written_forms(self):
        for plan, filling, text in WRITTEN_TABLES:
            with self.subTest(text=text):
                self.assertEqual(format_table(plan, filling), text)

    def test_drawn_tables(self):
        for plan, filling in drawn_tables(31, 300):
            self.assertEqual(format_table(plan, filling), table_by_hand(plan, filling))

    def test_invalid_plan_comes_first(self):
        for value, index in ALL_PLAN_FAULTS:
            for filling in ((1, 2, 3, 4), None, [1], (0,)):
                with self.subTest(value=value, filling=filling):
                    error = raised(format_table, filling=filling, plan=value)
                    self.assertEqual(what(error), (InvalidPlan, {"index": index}))

    def test_invalid_filling(self):
        for value, index in ALL_FILLING_FAULTS:
            with self.subTest(value=value):
                wanted = (InvalidFilling, {"index": index})
                self.assertEqual(what(raised(format_table, SQUARE, value)), wanted)

    def test_true_raises_even_after_the_equal_call(self):
        self.assertEqual(format_table(((0, 0),), (1,)), "1")
        self.assertEqual(what(raised(format_table, ((0, 0),), (True,))), (InvalidFilling, {"index": 0}))

    def test_by_name(self):
        self.assertEqual(format_table(plan=SQUARE, filling=(1, 2, 3, 4)), "1 2\n3 4")
        self.assertEqual(format_table(filling=(1, 2, 3, 4), plan=SQUARE), "1 2\n3 4")


class ParseTableTest(unittest.TestCase):
    def test_example_of_the_document(self):
        self.assertEqual(parse_table(". 7\n5 6"), (((0, 1), (1, 0), (1, 1)), (7, 5, 6)))

    def test_example_of_the_document_that_raises(self):
        self.assertEqual(what(raised(parse_table, "7 .")), (InvalidText, {"text": "7 ."}))

    def test_written_forms(self):
        for plan, filling, text in WRITTEN_TABLES:
            with self.subTest(text=text):
                found = parse_table(text)
                self.assertEqual(found, (plan, filling))
                self.assertEqual([type(part) for part in (found, found[0], found[1])], [tuple] * 3)

    def test_there_and_back(self):
        tables = [(plan, tuple(range(9999, 9999 - len(plan), -1)))
                  for plan in (FULL, transposed(FULL), STAIRS, block((1, 7), (2, 6)), ((3, 3),))]
        for plan, filling in drawn_tables(32, 400) + tables:
            self.assertEqual(parse_table(format_table(plan, filling)), (plan, filling))

    def test_other_texts(self):
        for text in NO_WRITTEN_TABLES:
            with self.subTest(text=text):
                self.assertEqual(what(raised(parse_table, text)), (InvalidText, {"text": text}))
                self.assertEqual(what(raised(parse_table, text=text)), (InvalidText, {"text": text}))

    def test_texts_with_one_character_too_many_or_too_few(self):
        for plan, filling, text in WRITTEN_TABLES:
            for at in range(len(text) + 1):
                changed = [text[:at] + sign + text[at:] for sign in " .0-\n"] + [text[:at] + text[at + 1:]]
                for other in changed:
                    error = raised(parse_table, other)
                    if error is None:
                        self.assertEqual(table_by_hand(*parse_table(other)), other)
                    else:
                        self.assertEqual(what(error), (InvalidText, {"text": other}))

    def test_no_strings(self):
        for text in NO_TEXTS:
            with self.subTest(text=text):
                error = raised(parse_table, text)
                self.assertIs(type(error), InvalidText)
                self.assertIs(error.text, text)

    def test_by_name(self):
        self.assertEqual(parse_table(text="8 3"), (((0, 0), (0, 1)), (8, 3)))


class AllFunctionsTest(unittest.TestCase):
    def test_equal_calls_return_equal_results(self):
        for program, text in WRITTEN_PROGRAMS:
            self.assertEqual(format_program(program), format_program(tuple(list(program))))
            self.assertEqual(parse_program(text), parse_program(text[:1] + text[1:]))
        for plan, filling, text in WRITTEN_TABLES:
            self.assertEqual(format_table(plan, filling), format_table(tuple(list(plan)), tuple(list(filling))))
            self.assertEqual(parse_table(text), parse_table(text[:1] + text[1:]))


if __name__ == "__main__":
    unittest.main()
