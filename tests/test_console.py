import random
import unittest

from keepsort.console import Console
from keepsort.errors import (InvalidCell, InvalidCommand, InvalidFilling, InvalidPlan, InvalidValue, NothingToUndo,
                             OtherValues, TooManyEdits, ValueTaken)
from keepsort.notation import format_program
from keepsort.sheet import Sheet
from samples import (ALL_FILLING_FAULTS, ALL_PLAN_FAULTS, FULL, PLAN, PROGRAMS, SKEW, SQUARE, STAIRS, drawn_filling,
                     drawn_plan, drawn_plan_that_keeps, drawn_program, nested, obstacle_by_search, raised,
                     reachable_by_search, what)

START = (1, 4, 3, 2)
LONG = "1" * 30

# Lines that are no commands.
BAD_LINES = (
    "", " ", "  ", "\n", "walk", "Arrange R", "ARRANGE R", "arranged R", "arrangeR", "Table", "TABLE", "tables", "tabl",
    " table", "table ", "table  ", " undo", "undo ", "undo  ", "table\n", "\ntable", "undo\n", "settled\n", "ta ble",
    "undo undo", "table table", "undo 1", "table 0", "settled 1", "edits 0", "edits ", "keeps R", "keeps 1", "log",
    "plan", "filling", "set_value",
    "arrange ", "arrange  ", "arrange  R", "arrange R ", "arrange R  C", " arrange R", "arrange x", "arrange R x",
    "arrange r", "arrange (", "arrange )", "arrange )x2", "arrange ( R )", "arrange ( R )x", "arrange ( R )x0",
    "arrange ( R )x01", "arrange (R )x2", "arrange ( R)x2", "arrange ( R )x-1", "arrange ( R )x+1", "arrange (  )x2",
    "arrange ()x2", "arrange ( )x2 ",
    "arrange ( R )x 2", "arrange ( R )x1000000000000000000000000000001", "arrange R\nC", "arrange\nR", "arrange\n",
    "arrange R\n", "arrange " + "R" * 401, "arrange " + " ".join(["R"] * 61), "arrange " + "( " * 5 + "R" + " )x2" * 5,
    "arrange 1", "arrange -",
    "arrange ('R',)", "arrange arrange R", "arrange undo", "R", "RC", "( R )x2",
    "set", "set ", "set 0", "set 0 0", "set 0 0 ", "set 0 0 5 6", "set 0 0 5 ", "set  0 0 5", "set 0  0 5",
    "set 0 0  5", "set a b c", "set 0 0 x", "set 0 0 -5", "set 0 0 +5", "set -1 0 5", "set 0 -1 5", "set 00 0 5",
    "set 0 00 5", "set 0 0 05",
    "set 0 0 00", "set 01 0 5", "set 0 0 5.0", "set 0 0 5,", "set (0, 0) 5", "set 0,0 5", "set 0 0 1_0", "set 0 0 5\n",
    "set 0 0\n5", "set 0 0 " + LONG + "1", "set " + LONG + "1 0 5", "set 0 " + "9" * 31 + " 5", "set 0 0 " + "0" * 31,
    "set 0 0 0x5", "set 0 0 1e3",
    "swap", "swap ", "swap 0 0", "swap 0 0 1", "swap 0 0 1 1 1", "swap 0 0 1 1 ", "swap  0 0 1 1", "swap 0 0  1 1",
    "swap 0 0 1 x", "swap 0 0 1 01", "swap 0 0 -1 1", "swap 0 0 1 +1", "swap 0 0 1 " + "1" * 31,
    "value", "value ", "value 0", "value 0 0 0", "value 0 0 ", "value  0 0", "value 0  0", "value 0 x", "value 00 0",
    "value 0 -1", "value 0 " + "1" * 31, "value 0 0\n",
    "word", "word ", "word  ", "word x", "word R", "word -", "word 1 4 3 x", "word 1 4 3 02", "word 1 4 3 -2",
    "word  1 4 3 2", "word 1  4 3 2", "word 1 4 3 2 ", "word 1 4 3 " + "2" * 31, "word 1,4,3,2", "word (1, 4, 3, 2)",
    "word 1 4\n3 2", "word 00 4 3 2",
    "x" * 2000, "set " * 500, " " * 2000,
)
NO_LINES = (None, True, False, 0, 1, 10 ** 59, (), ("table",), ["table"], [], b"table", b"", {}, {"table"},
            {"table": 1}, object(), nested(9), ("arrange", ("R",)))


def console():
    return Console(SQUARE, START)


def facts(told):
    """What the console tells of its sheet."""
    return [told.say(line) for line in ("table", "settled", "edits", "keeps")]


def facts_of(sheet):
    keeps = obstacle_by_search(sheet.plan()) is None
    return [str(sheet), "yes" if sheet.is_settled() else "no", str(len(sheet.log())), "yes" if keeps else "no"]


class ConsoleTest(unittest.TestCase):
    def test_example_of_the_document(self):
        told = Console(((0, 0), (0, 1)), (8, 5))
        found = [told.say("arrange R"), told.say("table"), told.say("settled"), told.say("value 0 1")]
        self.assertEqual(found, ["ok", "5 8", "yes", "8"])

    def test_example_of_the_document_that_raises(self):
        self.assertEqual(what(raised(Console(((0, 0),), (8,)).say, "walk")), (InvalidCommand, {"line": "walk"}))

    def test_each_command(self):
        told = console()
        for line, answer in (("table", "1 4\n3 2"), ("settled", "no"), ("edits", "0"), ("keeps", "yes"),
                             ("value 0 0", "1"), ("value 1 0", "3"), ("arrange RC", "ok"), ("table", "1 3\n2 4"),
                             ("settled", "yes"), ("edits", "1"),
                             ("set 0 1 9999", "ok"), ("value 0 1", "9999"), ("swap 0 0 1 1", "ok"),
                             ("table", "4 9999\n2 1"), ("edits", "3"), ("settled", "no"), ("undo", "ok"),
                             ("undo", "ok"), ("table", "1 3\n2 4"),
                             ("edits", "1"), ("arrange", "ok"), ("edits", "2"), ("table", "1 3\n2 4"), ("undo", "ok"),
                             ("undo", "ok"), ("table", "1 4\n3 2"), ("word 1 4 3 2", "-"), ("word 1 3 2 4", "RC"),
                             ("word 1 2 3 4", "C"), ("word 1 4 2 3", "R"), ("word 2 1 3 4", "never"), ("edits", "0")):
            self.assertEqual(told.say(line), answer, line)

    def test_created_by_name(self):
        self.assertEqual(Console(filling=START, plan=SQUARE).say(line="table"), "1 4\n3 2")

    def test_method_is_defined_in_the_class(self):
        self.assertIn("say", vars(Console))

    def test_invalid_plan_and_filling(self):
        for value, index in ALL_PLAN_FAULTS:
            for filling in (START, None):
                error = raised(Console, filling=filling, plan=value)
                self.assertEqual(what(error), (InvalidPlan, {"index": index}), value)
        for value, index in ALL_FILLING_FAULTS:
            self.assertEqual(what(raised(Console, SQUARE, value)), (InvalidFilling, {"index": index}), value)

    def test_answers_are_strings(self):
        told = console()
        for line in ("table", "settled", "edits", "keeps", "value 0 0", "arrange RC", "undo", "word 1 4 3 2",
                     "word 4 3 2 1"):
            self.assertIs(type(told.say(line)), str)


class NoCommandsTest(unittest.TestCase):
    def test_lines_that_are_no_commands(self):
        for line in BAD_LINES:
            with self.subTest(line=line):
                told = console()
                told.say("set 0 0 8")
                before = facts(told)
                self.assertEqual(what(raised(told.say, line)), (InvalidCommand, {"line": line}))
                self.assertEqual(facts(told), before)

    def test_values_that_are_no_strings(self):
        told = console()
        for line in NO_LINES:
            with self.subTest(line=line):
                error = raised(told.say, line)
                self.assertEqual(what(error), (InvalidCommand, {"line": line}))
                self.assertIs(error.line, line)
        self.assertEqual(facts(told), facts(console()))

    def test_the_form_comes_before_the_errors_of_the_sheet(self):
        told = console()
        for line in ("set 9 9 0 1", "set 9 9 x", "swap 9 9 9", "undo now", "value 9", "word 9 x", "set 9 9 00000"):
            self.assertEqual(what(raised(told.say, line)), (InvalidCommand, {"line": line}))

    def test_the_form_comes_before_too_many_edits(self):
        told = console()
        for at in range(1000):
            told.say("swap 0 0 0 1")
        self.assertEqual(told.say("edits"), "1000")
        for line in ("arrange ", "arrange x", "set 0 0", "swap 0 0 1"):
            self.assertEqual(what(raised(told.say, line)), (InvalidCommand, {"line": line}))
        for line in ("arrange", "arrange R", "set 0 0 7", "swap 0 0 0 0"):
            self.assertEqual(what(raised(told.say, line)), (TooManyEdits, {"count": 1000}))
        self.assertEqual(what(raised(told.say, "set 0 0 4")), (ValueTaken, {"value": 4}))
        self.assertEqual(told.say("undo"), "ok")
        self.assertEqual(told.say("arrange"), "ok")


class SheetErrorsTest(unittest.TestCase):
    def check(self, line, wanted):
        told = console()
        self.assertEqual(what(raised(told.say, line)), wanted, line)
        self.assertEqual(facts(told), facts(console()))

    def test_cells(self):
        for row, column in ((2, 0), (0, 2), (7, 7), (8, 8), (100, 0), (0, int(LONG)), (10 ** 30 - 1, 1)):
            wanted = (InvalidCell, {"cell": (row, column)})
            self.check(f"value {row} {column}", wanted)
            for value in (5, 4, 0, 10000):
                self.check(f"set {row} {column} {value}", wanted)
            self.check(f"swap {row} {column} 0 0", wanted)
            self.check(f"swap {row} {column} 9 9", wanted)
            self.check(f"swap 0 0 {row} {column}", wanted)

    def test_values(self):
        for value in (0, 10000, 99999, int(LONG), 10 ** 30 - 1):
            self.check(f"set 0 1 {value}", (InvalidValue, {"value": value}))
        for value in (1, 3, 2):
            self.check(f"set 0 1 {value}", (ValueTaken, {"value": value}))

    def test_undo(self):
        self.check("undo", (NothingToUndo, {}))

    def test_word(self):
        for line in ("word 1", "word 1 4 3", "word 1 4 3 2 5", "word 1 4 3 5", "word 1 1 4 3 2", "word 1 4 3 3",
                     "word 0 4 3 2", "word 0", "word 10000", "word 1 4 3 " + LONG, "word " + " ".join(["1"] * 900),
                     "word 5 6 7 8"):
            self.check(line, (OtherValues, {}))


class AgainstASheetTest(unittest.TestCase):
    def drawn_line(self, draw, sheet):
        """A line and what it does to a sheet, often something that raises an error."""
        row, column = draw.choice(sheet.plan()) if draw.randint(0, 9) else (draw.randint(0, 9), draw.randint(0, 9))
        other = draw.choice(sheet.plan()) if draw.randint(0, 9) else (draw.randint(0, 9), draw.randint(0, 9))
        value = draw.choice((draw.randint(0, 30), draw.randint(1, 10001)))
        program = drawn_program(draw, (1, 2, 10 ** 30), 4)[0]
        arranged = "arrange " + format_program(program) if program else "arrange"
        return draw.choice((
            (f"set {row} {column} {value}", lambda: sheet.set_value((row, column), value)),
            (f"swap {row} {column} {other[0]} {other[1]}", lambda: sheet.swap((row, column), other)),
            (arranged, lambda: sheet.arrange(program)),
            ("undo", sheet.undo),
        ))

    def test_drawn_commands(self):
        draw = random.Random(700)
        seen = set()
        plans = [PLAN, SKEW, STAIRS, FULL] + [drawn_plan(draw) for at in range(15)]
        plans += [drawn_plan_that_keeps(draw) for at in range(5)]
        for plan in plans:
            filling = drawn_filling(draw, plan)
            sheet = Sheet(plan, filling)
            told = Console(plan, filling)
            for at in range(50):
                line, call = self.drawn_line(draw, sheet)
                error = raised(call)
                if error is None:
                    self.assertEqual(told.say(line), "ok", line)
                else:
                    seen.add(type(error))
                    self.assertEqual(what(raised(told.say, line)), what(error), line)
                self.assertEqual(facts(told), facts_of(sheet), line)
                for row, column in plan:
                    self.assertEqual(told.say(f"value {row} {column}"), str(sheet.value_at((row, column))))
        self.assertEqual(seen, {InvalidCell, InvalidValue, ValueTaken, NothingToUndo})

    def test_programs(self):
        for program in PROGRAMS:
            text = format_program(program)
            sheet, told = Sheet(SQUARE, START), console()
            sheet.arrange(program)
            self.assertEqual(told.say("arrange " + text if program else "arrange"), "ok")
            self.assertEqual(facts(told), facts_of(sheet))

    def test_words(self):
        draw = random.Random(701)
        for plan in [PLAN, SKEW, SQUARE, STAIRS, FULL] + [drawn_plan(draw) for at in range(40)]:
            filling = drawn_filling(draw, plan)
            told = Console(plan, filling)
            words = {table: word for word, table in reachable_by_search(plan, filling)}
            for table, word in words.items():
                line = "word " + " ".join(str(value) for value in table)
                self.assertEqual(told.say(line), word if word else "-")
            for at in range(5):
                table = tuple(draw.sample(filling, len(plan)))
                wanted = words.get(table, "never") or "-"
                self.assertEqual(told.say("word " + " ".join(str(value) for value in table)), wanted)
            self.assertEqual(facts(told), facts_of(Sheet(plan, filling)))

    def test_the_word_leads_from_the_present_table(self):
        told = console()
        told.say("arrange R")
        self.assertEqual(told.say("word 1 3 2 4"), "C")
        self.assertEqual(told.say("word 1 4 3 2"), "never")
        told.say("set 0 0 9")
        self.assertEqual(what(raised(told.say, "word 1 3 2 4")), (OtherValues, {}))
        self.assertEqual(told.say("word 9 4 2 3"), "-")

    def test_two_consoles_in_turns(self):
        one, other = console(), console()
        one.say("arrange R")
        self.assertEqual(facts(other), facts(console()))
        other.say("set 1 1 77")
        self.assertEqual([one.say("table"), other.say("table")], ["1 4\n2 3", "1 4\n3 77"])

    def test_keeps(self):
        self.assertEqual(Console(PLAN, (2, 3, 1, 4)).say("keeps"), "no")
        self.assertEqual(Console(SKEW, (2, 3, 1, 4)).say("keeps"), "yes")

    def test_table_with_holes(self):
        self.assertEqual(Console(PLAN, (20, 3, 1, 400)).say("table"), "20 3\n. 1\n400 .")
        self.assertEqual(Console(((1, 2),), (7,)).say("table"), ". . .\n. . 7")


if __name__ == "__main__":
    unittest.main()
