"""What the document promises of several modules together."""

import doctest
import os
import random
import re
import unittest

from keepsort.boxes import box_after
from keepsort.certificates import keep_certificate, order_certificate, path_certificate, word_certificate
from keepsort.checker import check
from keepsort.console import Console
from keepsort.effects import effects, reduced, same
from keepsort.keeping import keeps
from keepsort.notation import format_program, format_table, parse_program, parse_table
from keepsort.observations import comparisons, find_order
from keepsort.plans import transposed
from keepsort.programs import count_operations, run
from keepsort.reach import reachable, word_to
from keepsort.rectangles import count_origins, number_of
from keepsort.sheet import Sheet, replay
from keepsort.sorting import after, is_sorted, rest, sort_lines
from samples import (block, drawn_filling, drawn_plan, drawn_plan_that_keeps, drawn_programs, drawn_tables, drawn_word)

TIMES = (1, 2, 3, 1000, 10 ** 30)
SHARED = os.path.join(os.path.dirname(os.path.abspath(__file__)), os.pardir, os.pardir, "shared", "DOC.md")
README = os.path.join(os.path.dirname(os.path.abspath(__file__)), os.pardir, "README.md")


def turned(plan, filling):
    """The table with rows and columns exchanged."""
    values = {(column, row): value for (row, column), value in zip(plan, filling)}
    return tuple(values[cell] for cell in transposed(plan))


class WholeTest(unittest.TestCase):
    def test_a_sheet_by_a_program_is_run(self):
        programs = drawn_programs(800, 150, TIMES)
        for (plan, filling), program in zip(drawn_tables(801, 150), programs):
            sheet = Sheet(plan, filling)
            sheet.arrange(program)
            wanted = run(plan, filling, program)
            self.assertEqual(sheet.filling(), wanted)
            told = Console(plan, filling)
            told.say("arrange " + format_program(program) if program else "arrange")
            self.assertEqual(told.say("table"), format_table(plan, wanted))
            self.assertEqual(replay(plan, filling, sheet.log()), sheet)
            self.assertIsNotNone(word_to(plan, filling, wanted))

    def test_written_forms_there_and_back(self):
        for program in drawn_programs(802, 300, TIMES):
            self.assertEqual(parse_program(format_program(program)), program)
        for plan, filling in drawn_tables(803, 300):
            self.assertEqual(parse_table(format_table(plan, filling)), (plan, filling))
            self.assertEqual(parse_table(str(Sheet(plan, filling))), (plan, filling))
            self.assertEqual(parse_table(Console(plan, filling).say("table")), (plan, filling))

    def test_on_a_plan_that_keeps_two_sorts_settle_the_table(self):
        draw = random.Random(804)
        for at in range(150):
            plan = drawn_plan_that_keeps(draw)
            filling = drawn_filling(draw, plan)
            self.assertIs(keeps(plan), True)
            for word in ("RC", "CR"):
                sheet = Sheet(plan, filling)
                sheet.arrange((word,))
                self.assertIs(sheet.is_settled(), True)
                self.assertLessEqual(rest(plan, filling, word[0])[0], 2)
            self.assertLessEqual(len(reachable(plan, filling)), 5)

    def test_words_with_equal_effects_lead_to_equal_tables(self):
        draw = random.Random(805)
        for at in range(100):
            plan = drawn_plan(draw, 10)
            word, other = drawn_word(draw, 8), drawn_word(draw, 8)
            for other in (other, reduced(plan, word)):
                if same(plan, word, other):
                    for more in range(3):
                        filling = drawn_filling(draw, plan)
                        one, two = Sheet(plan, filling), Sheet(plan, filling)
                        one.arrange((word,) if word else ())
                        two.arrange((other,) if other else ())
                        self.assertEqual(one, two)

    def test_every_word_has_one_of_the_effects(self):
        draw = random.Random(806)
        for at in range(60):
            plan = drawn_plan(draw, 8)
            words = effects(plan)
            word = drawn_word(draw, 30)
            self.assertEqual(len([other for other in words if same(plan, word, other)]), 1)
            if keeps(plan):
                self.assertLessEqual(len(words), 5)

    def test_programs_have_the_effect_of_their_first_letters_on_plans_that_keep(self):
        draw = random.Random(807)
        for program in drawn_programs(808, 100, TIMES):
            plan = drawn_plan_that_keeps(draw)
            filling = drawn_filling(draw, plan)
            letters = "".join(letter for letter in format_program(program) if letter in "RC")
            word = "".join(sorted(set(letters), key=letters.index))
            self.assertEqual(run(plan, filling, program), after(plan, filling, word))
            self.assertEqual([count > 0 for count in count_operations(program)], ["R" in word, "C" in word])

    def test_the_checker_accepts_all_certificates(self):
        draw = random.Random(809)
        for at in range(100):
            plan = drawn_plan(draw, 10)
            filling = drawn_filling(draw, plan)
            other = draw.choice((after(plan, filling, drawn_word(draw, 6)), tuple(draw.sample(filling, len(plan)))))
            for found in (keep_certificate(plan, "R"), keep_certificate(plan, "C"),
                          word_certificate(plan, drawn_word(draw, 6), drawn_word(draw, 6)),
                          path_certificate(plan, filling, other)):
                self.assertIs(check(*found), True, found)
            self.assertEqual(keep_certificate(plan, "R")[0][0], "kept" if keeps(plan) else "not kept")

    def test_observed_sorts_of_a_sheet(self):
        draw = random.Random(810)
        names = tuple("abcdefghijkl")
        for at in range(60):
            records = []
            values = draw.sample(range(1, 10000), 6)
            called = dict(zip(values, names))
            for more in range(draw.randint(1, 6)):
                plan = draw.choice([plan for plan in (drawn_plan(draw, 6) for each in range(200)) if len(plan) == 6])
                kind = draw.choice("RC")
                sheet = Sheet(plan, tuple(draw.sample(values, 6)))
                before = tuple(called[value] for value in sheet.filling())
                sheet.arrange((kind,))
                records.append((plan, before, kind, tuple(called[value] for value in sheet.filling())))
            records = tuple(records)
            order = find_order(records)
            self.assertLessEqual(order, tuple(called[value] for value in sorted(values)))
            self.assertEqual(order_certificate(records), (("order", records), order))
            self.assertIs(check(("order", records), order), True)
            for record in records:
                for smaller, greater in comparisons(record):
                    self.assertLess(order.index(smaller), order.index(greater))

    def test_rectangles_are_boxes_and_plans(self):
        draw = random.Random(811)
        for rows, columns in ((1, 6), (2, 3), (3, 4), (4, 6), (6, 4), (6, 1)):
            plan = block(range(rows), range(columns))
            for at in range(10):
                table = tuple(draw.sample(range(1, rows * columns + 1), rows * columns))
                for word, other in (("R", "y"), ("C", "x"), ("RC", "yx"), ("CR", "xy")):
                    result = after(plan, table, word)
                    self.assertEqual(box_after((rows, columns), table, other), result)
                    self.assertGreater(count_origins(rows, columns, result, word), 0)
                self.assertIsNotNone(number_of(rows, columns, after(plan, table, "RC")))
            self.assertIs(keeps(plan), True)

    def test_rows_and_columns_exchanged(self):
        draw = random.Random(812)
        for plan, filling in drawn_tables(813, 100):
            kind = draw.choice("RC")
            other = "C" if kind == "R" else "R"
            result = sort_lines(plan, filling, kind)
            self.assertEqual(sort_lines(transposed(plan), turned(plan, filling), other), turned(plan, result))
            self.assertEqual(keeps(transposed(plan)), keeps(plan))
            self.assertIs(is_sorted(plan, result, kind), True)


class ExamplesTest(unittest.TestCase):
    def run_block(self, text):
        """The result of the last line of an example, and what the example says."""
        held = {}
        lines = [line[4:] for line in text.split("\n") if line.startswith(">>> ")]
        wanted = "\n".join(line for line in text.split("\n") if line and not line.startswith(">>> "))
        for line in lines[:-1]:
            exec(line, held)
        try:
            found = repr(eval(lines[-1], held))
        except Exception as error:
            told = ", ".join(f"{name}={value!r}" for name, value in vars(error).items())
            found = f"raises {type(error).__name__}" + (f"({told})" if told else "")
        return found, wanted

    def test_all_examples_of_the_document(self):
        if not os.path.exists(SHARED):
            self.skipTest("the document is not beside the project")
        with open(SHARED, encoding="utf-8") as held:
            blocks = re.findall(r"```\n(>>> .*?)```", held.read(), re.S)
        self.assertGreater(len(blocks), 60)
        for text in blocks:
            found, wanted = self.run_block(text)
            self.assertEqual(found, wanted, text)

    def test_all_examples_of_the_readme(self):
        with open(README, encoding="ascii") as held:
            text = held.read().replace("```", "")
        example = doctest.DocTestParser().get_doctest(text, {}, "README.md", README, 0)
        self.assertGreater(len(example.examples), 30)
        told = []
        result = doctest.DocTestRunner(verbose=False).run(example, out=told.append)
        self.assertEqual(result.failed, 0, "".join(told))


if __name__ == "__main__":
    unittest.main()
