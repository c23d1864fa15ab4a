import random
import unittest

from keepsort.errors import InvalidFilling, InvalidPlan, InvalidProgram
from keepsort.programs import count_operations, is_program, run
from keepsort.sorting import rest
from samples import (ALL_FILLING_FAULTS, ALL_PLAN_FAULTS, ALL_PROGRAM_FAULTS, FULL, PLAN, PROGRAMS, SKEW,
                     SQUARE, STAIRS, after_by_hand, count_all_steps, drawn_filling, drawn_plan, drawn_plan_that_keeps,
                     drawn_programs, first_of_each_letter, nested, raised, what, written_out)

BIG = 10 ** 30
DOWN = tuple(range(15, 0, -1))


def run_on_plan(program):
    return run(PLAN, (2, 3, 1, 4), program)


class IsProgramTest(unittest.TestCase):
    def test_example_of_the_document(self):
        found = [is_program(()), is_program(("RC", ("repeat", 2, ()))), is_program(("RC", ("repeat", 0, ())))]
        self.assertEqual(found, [True, True, False])

    def test_programs(self):
        for program in PROGRAMS:
            with self.subTest(program=program):
                self.assertIs(is_program(program), True)

    def test_no_programs(self):
        for value, index in ALL_PROGRAM_FAULTS:
            with self.subTest(value=value):
                self.assertIs(is_program(value), False)

    def test_words(self):
        for word, wanted in (("", False), ("R", True), ("R" * 400, True), ("R" * 401, False), ("RX", False)):
            with self.subTest(word=word):
                self.assertIs(is_program((word,)), wanted)
                self.assertIs(is_program(("C", word)), wanted)
                self.assertIs(is_program((("repeat", 2, (word,)),)), wanted)

    def test_times(self):
        for times, wanted in ((1, True), (2, True), (BIG, True), (0, False), (-1, False), (BIG + 1, False),
                              (True, False), (False, False), ("1", False), (None, False), (10 ** 59, False)):
            with self.subTest(times=times):
                for inner in ((), ("R",), (("repeat", 3, ("C",)),)):
                    self.assertIs(is_program((("repeat", times, inner),)), wanted)
                self.assertIs(is_program((("repeat", 3, (("repeat", times, ("C",)),)),)), wanted)

    def test_nested_programs(self):
        for depth in range(1, 21):
            for word in ("", "R"):
                with self.subTest(depth=depth, word=word):
                    self.assertIs(is_program(nested(depth, word)), depth <= 5)

    def test_number_of_steps(self):
        for count in (0, 1, 59, 60, 61, 62, 200):
            with self.subTest(count=count):
                self.assertIs(is_program(("R",) * count), count <= 60)
                self.assertIs(is_program((("repeat", 2, ("R",) * count),)), count <= 59)
                self.assertIs(is_program((("repeat", 2, ()),) * count), count <= 60)
                self.assertIs(is_program(("C",) * 10 + (("repeat", 9, ("R",) * count),) + ("C",) * 9), count <= 40)

    def test_many_steps_that_are_the_same_object(self):
        program = ("R",) * 60
        for depth in range(4):
            program = (("repeat", 2, program),) * 60
        self.assertIs(is_program(program), False)

    def test_true_is_no_number_even_after_the_equal_call(self):
        self.assertIs(is_program((("repeat", 1, ("R",)),)), True)
        self.assertIs(is_program((("repeat", True, ("R",)),)), False)
        self.assertIs(is_program((("repeat", 1, ("R",)),)), True)

    def test_by_name(self):
        self.assertIs(is_program(value=("R",)), True)
        self.assertIs(is_program(value=["R"]), False)

    def test_drawn_programs(self):
        for program in drawn_programs(20, 300, (1, 5, BIG)):
            self.assertIs(is_program(program), count_all_steps(program) <= 60)


class CountOperationsTest(unittest.TestCase):
    def test_example_of_the_document(self):
        self.assertEqual(count_operations(("RRC", ("repeat", 1000, ("RC", "C")))), (1002, 2001))

    def test_against_programs_written_out(self):
        for program in drawn_programs(21, 300, (1, 2, 3)):
            word = written_out(program)
            self.assertEqual(count_operations(program), (word.count("R"), word.count("C")), program)

    def test_no_steps(self):
        self.assertEqual(count_operations(()), (0, 0))
        self.assertEqual(count_operations((("repeat", BIG, ()),)), (0, 0))
        self.assertEqual(count_operations(nested(5, "", BIG)), (0, 0))

    def test_long_repeats(self):
        self.assertEqual(count_operations((("repeat", BIG, ("R",)),)), (BIG, 0))
        self.assertEqual(count_operations((("repeat", BIG, ("RCC", "C")), "R")), (BIG + 1, 3 * BIG))
        self.assertEqual(count_operations(nested(5, "RRC", BIG)), (2 * BIG ** 4, BIG ** 4))
        program = ("C", ("repeat", BIG, ("R", ("repeat", BIG - 1, ("RC", ("repeat", 7, ()))))))
        self.assertEqual(count_operations(program), (BIG + BIG * (BIG - 1), 1 + BIG * (BIG - 1)))

    def test_longest_words(self):
        self.assertEqual(count_operations(("RC" * 200,) * 60), (12000, 12000))

    def test_result(self):
        found = count_operations(("R",))
        self.assertEqual([type(found), type(found[0]), type(found[1])], [tuple, int, int])

    def test_by_name(self):
        self.assertEqual(count_operations(program=("RC", "C")), (1, 2))


class RunTest(unittest.TestCase):
    def test_example_of_the_document(self):
        self.assertEqual(run(PLAN, (2, 3, 1, 4), (("repeat", BIG, ("CR",)), "C")), (1, 2, 3, 4))

    def test_example_of_the_document_that_raises(self):
        self.assertEqual(what(raised(run, PLAN, (2, 3, 1, 4), ("R", "x"))), (InvalidProgram, {"index": 1}))

    def test_against_programs_written_out(self):
        draw = random.Random(22)
        for program in drawn_programs(23, 250, (1, 2, 3)):
            for plan in (drawn_plan(draw), STAIRS):
                filling = drawn_filling(draw, plan)
                found = run(plan, filling, program)
                self.assertEqual(found, after_by_hand(plan, filling, written_out(program)), (plan, program))
                self.assertIs(type(found), tuple)

    def test_number_of_repetitions_that_matter(self):
        for body in ("RC", "CR", "RCR", "RRCC", "CRC", "RCRC", "CCRRC"):
            for times in range(1, 10):
                wanted = after_by_hand(STAIRS, DOWN, body * times)
                self.assertEqual(run(STAIRS, DOWN, (("repeat", times, (body,)),)), wanted, (body, times))
                self.assertEqual(run(STAIRS, DOWN, (("repeat", times, tuple(body)),)), wanted, (body, times))

    def test_steps_that_meet_with_the_same_letter(self):
        for program in (("R", "RC", "C", "CR"), ("R", ("repeat", 2, ("R", "C")), "C"),
                        (("repeat", 3, ("RCR",)), ("repeat", 2, ("RC",)), "C", "R")):
            wanted = after_by_hand(STAIRS, DOWN, written_out(program))
            self.assertEqual(run(STAIRS, DOWN, program), wanted, program)

    def test_long_words_with_the_last_letter_at_work(self):
        # Doubled letters are as good as one, however many of them there are.
        self.assertEqual(run(SQUARE, (1, 4, 3, 2), ("R" * 400,) * 59 + ("C",)), (1, 3, 2, 4))
        self.assertEqual(run(SQUARE, (1, 4, 3, 2), ("C" * 400,) * 59 + ("R",)), (1, 2, 3, 4))
        self.assertEqual(run(SQUARE, (1, 4, 3, 2), (("repeat", BIG, ("R",)), "C")), (1, 3, 2, 4))

    def test_long_repeats_settle(self):
        for plan in (PLAN, SKEW, SQUARE, STAIRS, FULL):
            filling = tuple(range(len(plan), 0, -1))
            for kind, other in ("RC", "CR"):
                settled = rest(plan, filling, kind)[1]
                for times in (400, 401, 10 ** 6, BIG - 1, BIG):
                    for body in ((kind + other,), (kind, other), (kind + other + kind,), (kind * 3 + other * 2, kind)):
                        self.assertEqual(run(plan, filling, (("repeat", times, body),)), settled)

    def test_long_repeats_of_one_letter(self):
        for kind in "RC":
            wanted = after_by_hand(STAIRS, DOWN, kind)
            for body in ((kind,), (kind * 400,), (kind,) * 50, (kind, ("repeat", BIG, (kind,)), ("repeat", BIG, ()))):
                self.assertEqual(run(STAIRS, DOWN, (("repeat", BIG, body),)), wanted)

    def test_nested_five_deep(self):
        self.assertEqual(run(STAIRS, DOWN, nested(5, "RC", BIG)), rest(STAIRS, DOWN, "R")[1])
        self.assertEqual(run(STAIRS, DOWN, nested(5, "C", BIG)), after_by_hand(STAIRS, DOWN, "C"))
        self.assertEqual(run(STAIRS, DOWN, nested(5, "CR", 1)), after_by_hand(STAIRS, DOWN, "CR"))
        self.assertEqual(run(STAIRS, DOWN, nested(3, "CR", 2)), after_by_hand(STAIRS, DOWN, "CR" * 4))
        self.assertEqual(run(STAIRS, DOWN, nested(5, "RC", BIG) + nested(5, "C", BIG)), tuple(range(1, 16)))

    def test_no_steps(self):
        for program in ((), (("repeat", BIG, ()),), (("repeat", BIG, ()),) * 60, nested(5, "", BIG)):
            self.assertEqual(run(STAIRS, DOWN, program), DOWN)
            self.assertEqual(run(SQUARE, (1, 4, 3, 2), ("R",) + program[:59]), (1, 4, 2, 3))

    def test_empty_inner_programs_beside_others(self):
        empty = ("repeat", BIG, ())
        program = (empty, ("repeat", 2, (empty, "R", empty, "C", empty)), empty)
        self.assertEqual(run(STAIRS, DOWN, program), after_by_hand(STAIRS, DOWN, "RCRC"))

    def test_longest_programs(self):
        self.assertEqual(run(FULL, tuple(range(24, 0, -1)), ("RC" * 200,) * 60), tuple(range(1, 25)))
        inner = ("RC" * 200,) * 11
        program = inner
        for depth in range(4):
            program = inner + (("repeat", BIG, program),)
        self.assertIs(is_program(program), True)
        self.assertEqual(run(STAIRS, DOWN, program), tuple(range(1, 16)))

    def test_plans_that_keep_need_the_first_letters_only(self):
        draw = random.Random(24)
        for program in drawn_programs(25, 100, (1, 2, 3)):
            plan = drawn_plan_that_keeps(draw)
            filling = drawn_filling(draw, plan)
            short = first_of_each_letter(written_out(program))
            self.assertEqual(run(plan, filling, program), after_by_hand(plan, filling, short))

    def test_invalid_plan_comes_first(self):
        for value, index in ALL_PLAN_FAULTS:
            for filling, program in (((1, 2, 3, 4), ()), (None, ()), ((1, 2, 3, 4), ("x",)), ([], None)):
                with self.subTest(value=value, filling=filling, program=program):
                    error = raised(run, value, filling, program)
                    self.assertEqual(what(error), (InvalidPlan, {"index": index}))

    def test_invalid_filling_comes_before_invalid_program(self):
        for value, index in ALL_FILLING_FAULTS:
            for program in ((), ("x",), None):
                with self.subTest(value=value, program=program):
                    error = raised(run, program=program, filling=value, plan=SQUARE)
                    self.assertEqual(what(error), (InvalidFilling, {"index": index}))

    def test_by_name(self):
        wanted = (1, 3, 2, 4)
        self.assertEqual(run(plan=SQUARE, filling=(1, 4, 3, 2), program=("RC",)), wanted)
        self.assertEqual(run(program=("RC",), filling=(1, 4, 3, 2), plan=SQUARE), wanted)
        self.assertEqual(run(SQUARE, (1, 4, 3, 2), program=("RC",)), wanted)


class InvalidProgramTest(unittest.TestCase):
    calls = (count_operations, run_on_plan)

    def test_invalid_program(self):
        for call in self.calls:
            for value, index in ALL_PROGRAM_FAULTS:
                with self.subTest(call=call.__name__, value=value):
                    wanted = (InvalidProgram, {"index": index})
                    self.assertEqual(what(raised(call, value)), wanted)
                    self.assertEqual(what(raised(call, program=value)), wanted)

    def test_steps_before_the_index_are_a_program(self):
        for value, index in ALL_PROGRAM_FAULTS:
            if index is not None:
                self.assertIs(is_program(value[:index]), True)
                self.assertIs(is_program(value[:index + 1]), False)

    def test_true_raises_even_after_the_equal_call(self):
        for call in self.calls:
            first = call((("repeat", 1, ("R",)),))
            self.assertEqual(what(raised(call, (("repeat", True, ("R",)),))), (InvalidProgram, {"index": 0}))
            self.assertEqual(call((("repeat", 1, ("R",)),)), first)

    def test_equal_calls_return_equal_results(self):
        for program in PROGRAMS:
            for call in self.calls:
                self.assertEqual(call(program), call(tuple(list(program))))

    def test_arguments_are_not_modified(self):
        inner = ["R"]
        whole = ["R", ("repeat", 2, ())]
        for call in self.calls + (is_program,):
            raised(call, whole)
            raised(call, (("repeat", 2, inner),))
        self.assertEqual((inner, whole), (["R"], ["R", ("repeat", 2, ())]))


if __name__ == "__main__":
    unittest.main()
