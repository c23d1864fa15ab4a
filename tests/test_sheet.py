import random
import unittest

from keepsort.errors import (InvalidCell, InvalidEdit, InvalidFilling, InvalidPlan, InvalidProgram, InvalidValue,
                             NothingToUndo, OtherValues, TooManyEdits, ValueTaken)
from keepsort.notation import format_table
from keepsort.sheet import Sheet, replay
from samples import (ALL_FILLING_FAULTS, ALL_PLAN_FAULTS, ALL_PROGRAM_FAULTS, FULL, PLAN, PROGRAMS, SKEW, SQUARE,
                     STAIRS, after_by_hand, block, drawn_filling, drawn_plan, drawn_program, drawn_tables,
                     first_of_each_letter, is_sorted_by_hand, nested, raised, what, written_out)

START = (1, 4, 3, 2)

# Values that are no cells of the square.
BAD_CELLS = ((0, 2), (2, 0), (2, 2), (7, 7), (8, 0), (0, -1), (-1, 0), (True, 0), (0, True), (False, False), (1, False),
             (True, True), [0, 0], (), (0,), (0, 0, 0), ((0, 0),), ((0, 0), (0, 1)), ("0", "0"), (0, "0"), (0, None),
             (None, 0), (0, (0,)), (10 ** 59, 0), 0, 1, None, True, False, "", "00", b"00", {}, {0, 1}, {0: 0, 1: 1},
             SQUARE, object(), nested(9))
BAD_VALUES = (0, -1, 10000, 10 ** 59, -10 ** 59, True, False, None, "", "5", "a", (), (5,), [], [5], b"5", {}, {5},
              object(), nested(9))

# Values that are no edits, not even by their form.
NO_EDITS = ((), ("arrange",), ("arrange", (), ()), ("arrange", (), None, 1), ("set",), ("set", (0, 0)),
            ("set", (0, 0), 5, 6), ("swap",), ("swap", (0, 0)), ("swap", (0, 0), (0, 1), (1, 0)),
            ("walk", (0, 0), (0, 1)), ("Set", (0, 0), 5),
            ("set ", (0, 0), 5), ("", (0, 0), 5), (None, (0, 0), 5), (0, (0, 0), 5), (True, ()), (b"set", (0, 0), 5),
            (("set",), (0, 0), 5), (["set"], (0, 0), 5), ({"set"}, (0, 0), 5), ["arrange", ("R",)], ["set", (0, 0), 5],
            ["swap", (0, 0), (0, 1)], ("set", ("arrange", ())), ("arrange", ("R",), ("C",)), (("arrange", ("R",)),),
            ((0, 0), "set", 5), ("undo",), ("undo", ()), "arrange", "set", "", b"", None, True, False, 0, 5, 10 ** 59,
            {}, {"arrange": ("R",)}, {"arrange", "R"}, object(), nested(9), ((((((),),),),),))
NOT_TUPLES = ([], [("arrange", ("R",))], [None], "", "arrange", b"", None, True, False, 0, 5, 10 ** 59, {},
              {("arrange", ())}, {("arrange", ()): 1}, object())

GOOD_EDITS = (("arrange", ("R",)), ("arrange", ()), ("arrange", ("RC", ("repeat", 10 ** 30, ("C",)))),
              ("set", (0, 0), 9999), ("set", (1, 1), 7), ("swap", (0, 0), (1, 1)), ("swap", (1, 0), (1, 0)))

# Edits of the right form that raise an error on the square with the values of START.
RAISING = (
    (("arrange", ("R", "x")), InvalidProgram, {"index": 1}),
    (("arrange", None), InvalidProgram, {"index": None}),
    (("arrange", ["R"]), InvalidProgram, {"index": None}),
    (("set", (2, 2), 5), InvalidCell, {"cell": (2, 2)}),
    (("set", None, None), InvalidCell, {"cell": None}),
    (("set", (0, 0), 0), InvalidValue, {"value": 0}),
    (("set", (0, 0), "5"), InvalidValue, {"value": "5"}),
    (("set", (0, 0), 4), ValueTaken, {"value": 4}),
    (("swap", (0, 0), (2, 2)), InvalidCell, {"cell": (2, 2)}),
    (("swap", (3, 3), (2, 2)), InvalidCell, {"cell": (3, 3)}),
)


class PlainTable:
    """What a sheet is to do, by a dict of cells and a list of all former states."""

    def __init__(self, plan, filling):
        self.plan = plan
        self.values = dict(zip(plan, filling))
        self.past = []

    def filling(self):
        return tuple(self.values[cell] for cell in self.plan)

    def do(self, edit):
        self.past.append((edit, dict(self.values)))
        if edit[0] == "arrange":
            self.values = dict(zip(self.plan, after_by_hand(self.plan, self.filling(), written_out(edit[1]))))
        elif edit[0] == "set":
            self.values[edit[1]] = edit[2]
        else:
            one, other = edit[1:]
            self.values[one], self.values[other] = self.values[other], self.values[one]

    def undo(self):
        edit, self.values = self.past.pop()

    def log(self):
        return tuple(edit for edit, values in self.past)


def drawn_edit(draw, plan, filling):
    """Any edit that raises no error."""
    kind = draw.choice(("arrange", "set", "swap"))
    if kind == "arrange":
        return (kind, drawn_program(draw, (1, 2, 3), 3)[0])
    cell = draw.choice(plan)
    if kind == "swap":
        return (kind, cell, draw.choice(plan))
    taken = set(filling) - {filling[plan.index(cell)]}
    return (kind, cell, draw.choice([value for value in draw.sample(range(1, 10000), 30) if value not in taken]))


def do(sheet, edit):
    """Performs an edit by its method."""
    calls = {"arrange": sheet.arrange, "set": sheet.set_value, "swap": sheet.swap}
    return calls[edit[0]](*edit[1:])


def state(sheet):
    return sheet.plan(), sheet.filling(), sheet.log(), sheet.busy, str(sheet), repr(sheet), len(sheet)


def square():
    return Sheet(SQUARE, START)


def full_sheet():
    """A sheet whose log has 1000 edits."""
    sheet = square()
    sheet.do_all((("swap", (0, 0), (1, 1)),) * 1000)
    return sheet


class ExamplesTest(unittest.TestCase):
    def test_arrange(self):
        sheet = square()
        self.assertIsNone(sheet.arrange(("RC",)))
        found = [sheet.filling(), len(sheet), str(sheet), repr(sheet), sheet.is_settled()]
        self.assertEqual(found, [(1, 3, 2, 4), 4, "1 3\n2 4", "Sheet(4)", True])

    def test_set_and_swap(self):
        sheet = square()
        self.assertIsNone(sheet.set_value((0, 1), 9))
        self.assertIsNone(sheet.swap((0, 0), (1, 1)))
        found = [sheet.filling(), sheet.value_at((1, 1)), sheet.log()]
        self.assertEqual(found, [(2, 9, 3, 1), 1, (("set", (0, 1), 9), ("swap", (0, 0), (1, 1)))])

    def test_value_taken(self):
        self.assertEqual(what(raised(square().set_value, (0, 1), 3)), (ValueTaken, {"value": 3}))

    def test_do_all_that_raises(self):
        sheet = square()
        error = raised(sheet.do_all, (("arrange", ("R",)), ("swap", (0, 0), (2, 2))))
        self.assertEqual(what(error), (InvalidCell, {"cell": (2, 2)}))
        self.assertEqual(state(sheet), state(square()))

    def test_do_all_and_undo(self):
        sheet = square()
        self.assertIsNone(sheet.do_all((("arrange", ("R",)), ("swap", (0, 0), (0, 1)))))
        self.assertIsNone(sheet.undo())
        self.assertEqual([sheet.filling(), sheet.busy], [(1, 4, 2, 3), False])

    def test_replay(self):
        log = (("arrange", ("R",)), ("set", (0, 0), 7))
        self.assertEqual(replay(((0, 0), (0, 1)), (8, 5), log).filling(), (7, 8))


class SheetTest(unittest.TestCase):
    def test_created(self):
        for plan, filling in drawn_tables(400, 50):
            sheet = Sheet(plan, filling)
            self.assertEqual([sheet.plan(), sheet.filling(), sheet.log()], [plan, filling, ()])
            self.assertIs(sheet.busy, False)
            self.assertEqual([len(sheet), str(sheet)], [len(plan), format_table(plan, filling)])
            self.assertEqual(repr(sheet), "Sheet(" + str(len(plan)) + ")")
            self.assertEqual([sheet.value_at(cell) for cell in plan], list(filling))

    def test_created_by_name(self):
        self.assertEqual(Sheet(filling=START, plan=SQUARE), square())
        self.assertEqual(Sheet(SQUARE, filling=START), square())

    def test_invalid_plan_comes_first(self):
        for value, index in ALL_PLAN_FAULTS:
            for filling in (START, None, (0,)):
                for call, more in ((Sheet, {}), (replay, {"log": ()}), (replay, {"log": None})):
                    with self.subTest(value=value, filling=filling, call=call):
                        error = raised(call, filling=filling, plan=value, **more)
                        self.assertEqual(what(error), (InvalidPlan, {"index": index}))

    def test_invalid_filling(self):
        for value, index in ALL_FILLING_FAULTS:
            for call, more in ((Sheet, ()), (replay, ((),)), (replay, (None,)), (replay, ((None,),))):
                with self.subTest(value=value, call=call):
                    self.assertEqual(what(raised(call, SQUARE, value, *more)), (InvalidFilling, {"index": index}))

    def test_is_settled(self):
        draw = random.Random(401)
        for plan, filling in drawn_tables(402, 100):
            sheet = Sheet(plan, filling)
            for program in ((), ("R",), ("C",), ("RC",), (("repeat", 200, ("RC",)),)):
                sheet.arrange(program)
                wanted = all(is_sorted_by_hand(plan, sheet.filling(), kind) for kind in "RC")
                self.assertIs(sheet.is_settled(), wanted)
            self.assertIs(sheet.is_settled(), True)
            if len(plan) > 1:
                cell, other = draw.sample(plan, 2)
                sheet.swap(cell, other)
                wanted = all(is_sorted_by_hand(plan, sheet.filling(), kind) for kind in "RC")
                self.assertIs(sheet.is_settled(), wanted)

    def test_equal(self):
        sheet = square()
        other = square()
        self.assertIs(sheet == other, True)
        self.assertIs(sheet != other, False)
        self.assertIs(sheet == sheet, True)
        other.arrange(())
        # The log does not count.
        self.assertIs(sheet == other, True)
        other.swap((0, 0), (0, 1))
        self.assertIs(sheet == other, False)
        self.assertIs(sheet != other, True)
        other.swap((0, 0), (0, 1))
        self.assertIs(sheet == other, True)
        self.assertIs(sheet == Sheet(SKEW, START), False)
        self.assertIs(sheet != Sheet(SKEW, START), True)
        self.assertIs(sheet == Sheet(SQUARE, (1, 4, 3, 5)), False)

    def test_equal_to_no_other_value(self):
        sheet = square()
        for value in (SQUARE, START, (SQUARE, START), str(sheet), repr(sheet), 4, None, True, False, [], {}, object(),
                      "", 0):
            self.assertIs(sheet == value, False)
            self.assertIs(value == sheet, False)
            self.assertIs(sheet != value, True)
            self.assertIs(value != sheet, True)

    def test_methods_are_defined_in_the_class(self):
        for name in ("arrange set_value swap do_all undo plan filling log value_at is_settled __init__ __len__ __eq__ "
                     "__str__ __repr__").split():
            self.assertIn(name, vars(Sheet))

    def test_results(self):
        sheet = square()
        sheet.do_all(GOOD_EDITS)
        self.assertEqual([type(each) for each in (sheet.plan(), sheet.filling(), sheet.log())], [tuple] * 3)
        self.assertEqual([type(each) for each in (str(sheet), repr(sheet))], [str] * 2)
        self.assertIs(type(sheet.value_at((0, 0))), int)


class EditsTest(unittest.TestCase):
    def test_against_a_plain_table(self):
        draw = random.Random(410)
        for plan in [PLAN, SKEW, SQUARE, STAIRS, FULL, ((7, 7),)] + [drawn_plan(draw) for at in range(20)]:
            filling = drawn_filling(draw, plan)
            sheet = Sheet(plan, filling)
            table = PlainTable(plan, filling)
            for at in range(60):
                if draw.randint(0, 3) == 0:
                    if not table.past:
                        self.assertEqual(what(raised(sheet.undo)), (NothingToUndo, {}))
                    else:
                        self.assertIsNone(sheet.undo())
                        table.undo()
                elif draw.randint(0, 4) == 0:
                    edits = []
                    for more in range(draw.randint(0, 4)):
                        edits.append(drawn_edit(draw, plan, table.filling()))
                        table.do(edits[-1])
                    self.assertIsNone(sheet.do_all(tuple(edits)))
                else:
                    edit = drawn_edit(draw, plan, table.filling())
                    table.do(edit)
                    self.assertIsNone(do(sheet, edit))
                self.assertEqual([sheet.filling(), sheet.log()], [table.filling(), table.log()])
                self.assertEqual([sheet.value_at(cell) for cell in plan], list(table.filling()))
                self.assertEqual(sheet, Sheet(plan, table.filling()))
                self.assertIs(sheet.busy, False)
            self.assertEqual(replay(plan, filling, sheet.log()), sheet)
            self.assertEqual(replay(plan, filling, sheet.log()).log(), sheet.log())
            while table.past:
                table.undo()
                sheet.undo()
                self.assertEqual([sheet.filling(), sheet.log()], [table.filling(), table.log()])
            self.assertEqual(state(sheet), state(Sheet(plan, filling)))
            for at in range(3):
                self.assertEqual(what(raised(sheet.undo)), (NothingToUndo, {}))
            self.assertEqual(state(sheet), state(Sheet(plan, filling)))

    def test_two_sheets_in_turns(self):
        draw = random.Random(411)
        plan = drawn_plan(draw, 8)
        filling = drawn_filling(draw, plan)
        sheets = [Sheet(plan, filling), Sheet(plan, filling)]
        tables = [PlainTable(plan, filling), PlainTable(plan, filling)]
        for at in range(100):
            which = draw.randint(0, 1)
            if tables[which].past and draw.randint(0, 2) == 0:
                sheets[which].undo()
                tables[which].undo()
            else:
                edit = drawn_edit(draw, plan, tables[which].filling())
                do(sheets[which], edit)
                tables[which].do(edit)
            for sheet, table in zip(sheets, tables):
                self.assertEqual([sheet.filling(), sheet.log()], [table.filling(), table.log()])

    def test_programs(self):
        for program in PROGRAMS:
            sheet = square()
            self.assertIsNone(sheet.arrange(program))
            self.assertEqual(sheet.log(), (("arrange", program),))
            # The square keeps, so the first letter of each kind tells the effect.
            word = first_of_each_letter("".join(letter for letter in str(program) if letter in "RC"))
            self.assertEqual(sheet.filling(), after_by_hand(SQUARE, START, word))

    def test_the_value_that_the_cell_has(self):
        sheet = square()
        self.assertIsNone(sheet.set_value((0, 1), 4))
        self.assertEqual([sheet.filling(), sheet.log()], [START, (("set", (0, 1), 4),)])

    def test_a_value_that_was_set_free(self):
        sheet = square()
        sheet.set_value((0, 1), 9)
        sheet.set_value((0, 0), 4)
        self.assertEqual(sheet.filling(), (4, 9, 3, 2))
        self.assertEqual(what(raised(sheet.set_value, (1, 1), 9)), (ValueTaken, {"value": 9}))

    def test_ends_of_values(self):
        sheet = Sheet(((0, 0), (0, 1)), (5, 6))
        sheet.set_value((0, 0), 9999)
        sheet.set_value((0, 1), 1)
        self.assertEqual(sheet.filling(), (9999, 1))

    def test_swap_with_itself(self):
        sheet = square()
        sheet.swap((1, 0), (1, 0))
        self.assertEqual([sheet.filling(), sheet.log()], [START, (("swap", (1, 0), (1, 0)),)])

    def test_by_name(self):
        sheet = square()
        sheet.set_value(value=8, cell=(0, 0))
        sheet.swap(other=(0, 1), cell=(0, 0))
        sheet.arrange(program=("R",))
        sheet.do_all(edits=(("swap", (0, 0), (1, 0)),))
        self.assertEqual(sheet.value_at(cell=(0, 0)), 2)
        self.assertEqual(sheet.filling(), (2, 8, 4, 3))
        wanted = (("set", (0, 0), 8), ("swap", (0, 0), (0, 1)), ("arrange", ("R",)), ("swap", (0, 0), (1, 0)))
        self.assertEqual(sheet.log(), wanted)
        self.assertEqual(replay(log=wanted, filling=START, plan=SQUARE), sheet)

    def test_results_do_not_change_later(self):
        sheet = square()
        sheet.arrange(("R",))
        filling, log = sheet.filling(), sheet.log()
        before = repr((filling, log))
        sheet.swap((0, 0), (1, 1))
        sheet.undo()
        sheet.undo()
        self.assertEqual(repr((filling, log)), before)


class ErrorsTest(unittest.TestCase):
    def check(self, sheet, call, values, wanted):
        before = state(sheet)
        self.assertEqual(what(raised(call, *values)), wanted, values)
        self.assertEqual(state(sheet), before)

    def sheets(self):
        """A new sheet, one with edits and one with a full log."""
        edited = square()
        edited.do_all((("arrange", ()), ("swap", (0, 0), (0, 0))))
        return square(), edited, full_sheet()

    def test_invalid_program(self):
        for sheet in self.sheets():
            for value, index in ALL_PROGRAM_FAULTS:
                self.check(sheet, sheet.arrange, (value,), (InvalidProgram, {"index": index}))

    def test_invalid_cell(self):
        for sheet in self.sheets():
            for cell in BAD_CELLS:
                wanted = (InvalidCell, {"cell": cell})
                self.check(sheet, sheet.value_at, (cell,), wanted)
                self.check(sheet, sheet.swap, ((0, 0), cell), wanted)
                for other in ((0, 0), (9, 9), None):
                    self.check(sheet, sheet.swap, (cell, other), wanted)
                for value in (9, 4, 0, None, True):
                    self.check(sheet, sheet.set_value, (cell, value), wanted)

    def test_the_cell_itself_is_told(self):
        cell = (True, 0)
        self.assertIs(raised(square().value_at, cell).cell, cell)

    def test_invalid_value(self):
        for sheet in self.sheets():
            for value in BAD_VALUES:
                self.check(sheet, sheet.set_value, ((0, 1), value), (InvalidValue, {"value": value}))
        self.assertIs(raised(square().set_value, (0, 0), True).value, True)

    def test_value_taken(self):
        for sheet in self.sheets():
            for cell, own in zip(SQUARE, sheet.filling()):
                for value in START:
                    if value != own:
                        self.check(sheet, sheet.set_value, (cell, value), (ValueTaken, {"value": value}))

    def test_nothing_to_undo(self):
        sheet = square()
        self.check(sheet, sheet.undo, (), (NothingToUndo, {}))
        sheet.arrange(())
        sheet.undo()
        self.check(sheet, sheet.undo, (), (NothingToUndo, {}))

    def test_too_many_edits(self):
        sheet = full_sheet()
        self.assertEqual(len(sheet.log()), 1000)
        wanted = (TooManyEdits, {"count": 1000})
        for edit in GOOD_EDITS:
            self.check(sheet, do, (sheet, edit), wanted)
            self.check(sheet, sheet.do_all, ((edit,),), wanted)
        for edit, error, attributes in RAISING:
            self.check(sheet, do, (sheet, edit), (error, attributes))
            self.check(sheet, sheet.do_all, ((edit,),), (error, attributes))
        for edit in NO_EDITS:
            self.check(sheet, sheet.do_all, ((GOOD_EDITS[0], edit),), (InvalidEdit, {"index": 1}))
        self.assertIsNone(sheet.do_all(()))
        sheet.undo()
        self.assertIsNone(sheet.arrange(("RC",)))
        self.assertEqual(len(sheet.log()), 1000)
        self.check(sheet, sheet.arrange, ((),), wanted)

    def test_1000_edits_one_by_one(self):
        sheet = square()
        for at in range(1000):
            sheet.swap((0, 0), (0, 1))
        self.check(sheet, sheet.swap, ((0, 0), (0, 1)), (TooManyEdits, {"count": 1000}))
        for at in range(1000):
            sheet.undo()
        self.assertEqual(state(sheet), state(square()))

    def test_do_all_over_the_limit(self):
        sheet = square()
        sheet.do_all((("swap", (0, 0), (1, 1)),) * 997)
        self.check(sheet, sheet.do_all, (GOOD_EDITS[:4],), (TooManyEdits, {"count": 1000}))
        # The edit that finds the log full comes before the one that raises another error.
        edits = GOOD_EDITS[:4] + (("set", (2, 2), 5),)
        self.check(sheet, sheet.do_all, (edits,), (TooManyEdits, {"count": 1000}))
        edits = GOOD_EDITS[:3] + (("set", (2, 2), 5),)
        self.check(sheet, sheet.do_all, (edits,), (InvalidCell, {"cell": (2, 2)}))
        sheet.do_all(GOOD_EDITS[:3])
        self.assertEqual(len(sheet.log()), 1000)


class DoAllTest(unittest.TestCase):
    def check(self, sheet, edits, wanted, **named):
        before = state(sheet)
        self.assertEqual(what(raised(sheet.do_all, edits, **named)), wanted, edits)
        self.assertEqual(state(sheet), before)

    def test_no_edits(self):
        sheet = square()
        calls = []
        self.assertIsNone(sheet.do_all(()))
        self.assertIsNone(sheet.do_all((), watch=lambda *told: calls.append(told)))
        self.assertEqual(state(sheet), state(square()))
        self.assertEqual(calls, [])

    def test_edits_of_all_kinds(self):
        one, other = square(), square()
        one.do_all(GOOD_EDITS)
        for edit in GOOD_EDITS:
            do(other, edit)
        self.assertEqual(state(one), state(other))
        self.assertEqual(one.log(), GOOD_EDITS)

    def test_no_tuple(self):
        for value in NOT_TUPLES:
            self.check(square(), value, (InvalidEdit, {"index": None}))
            self.check(square(), value, (InvalidEdit, {"index": None}), watch=lambda sheet, index: None)

    def test_no_edits_come_ahead_of_every_other_error(self):
        for value in NO_EDITS:
            self.check(square(), (value,), (InvalidEdit, {"index": 0}))
            self.check(square(), GOOD_EDITS + (value, None), (InvalidEdit, {"index": len(GOOD_EDITS)}))
            for edit, error, attributes in RAISING:
                self.check(square(), (edit, value, ()), (InvalidEdit, {"index": 1}))

    def test_no_edit_means_that_watch_is_not_called(self):
        calls = []
        self.check(square(), (GOOD_EDITS[0], ()), (InvalidEdit, {"index": 1}), watch=lambda *told: calls.append(told))
        self.assertEqual(calls, [])

    def test_edits_that_raise(self):
        for edit, error, attributes in RAISING:
            self.check(square(), (edit,), (error, attributes))
            self.check(square(), (("arrange", ("R",)), ("swap", (1, 0), (1, 1)), edit), (error, attributes))
            for other, second, told in RAISING:
                self.check(square(), (("arrange", ()), edit, other), (error, attributes))

    def test_a_later_edit_sees_the_earlier_ones(self):
        sheet = square()
        self.check(sheet, (("set", (0, 0), 9), ("set", (0, 1), 9)), (ValueTaken, {"value": 9}))
        sheet.do_all((("set", (0, 0), 9), ("set", (0, 1), 1), ("set", (0, 0), 4)))
        self.assertEqual(sheet.filling(), (4, 1, 3, 2))

    def test_watch(self):
        sheet = square()
        other = square()
        calls = []

        def watch(told, index):
            do(other, GOOD_EDITS[index])
            calls.append(index)
            self.assertIs(told, sheet)
            self.assertIs(told.busy, True)
            self.assertEqual(state(told)[:3], state(other)[:3])
            self.assertEqual(told, other)

        self.assertIsNone(sheet.do_all(GOOD_EDITS, watch=watch))
        self.assertEqual(calls, list(range(len(GOOD_EDITS))))
        self.assertEqual(state(sheet), state(other))
        self.assertIs(sheet.busy, False)

    def test_indexes_begin_at_0_whatever_the_log_has(self):
        sheet = square()
        sheet.do_all(GOOD_EDITS)
        calls = []
        sheet.do_all(GOOD_EDITS[:2], watch=lambda told, index: calls.append(index))
        self.assertEqual(calls, [0, 1])

    def test_watch_is_passed_by_name_only(self):
        sheet = square()
        calls = []
        with self.assertRaises(TypeError):
            sheet.do_all((), lambda told, index: calls.append(index))
        with self.assertRaises(TypeError):
            sheet.do_all(GOOD_EDITS, None)
        self.assertEqual(state(sheet), state(square()))
        self.assertIsNone(sheet.do_all(GOOD_EDITS, watch=None))

    def test_watch_that_raises(self):
        class Strange(Exception):
            pass

        for error in (ValueError("no"), KeyError(3), Strange(), StopIteration(), KeyboardInterrupt(), SystemExit(1),
                      InvalidEdit(7), NothingToUndo(), OtherValues(), TooManyEdits(5), TypeError(), RuntimeError(),
                      OSError()):
            for last in range(len(GOOD_EDITS)):
                sheet = square()
                sheet.arrange(("C",))
                before = state(sheet)
                calls = []

                def watch(told, index):
                    calls.append((index, told.busy))
                    if index == last:
                        raise error

                caught = None
                try:
                    sheet.do_all(GOOD_EDITS, watch=watch)
                except BaseException as found:
                    caught = found
                self.assertIs(caught, error)
                self.assertEqual(state(sheet), before)
                self.assertIs(sheet.busy, False)
                self.assertEqual(calls, [(index, True) for index in range(last + 1)])
                # The sheet goes on as if nothing had happened.
                sheet.undo()
                self.assertEqual(state(sheet), state(square()))

    def test_watch_before_an_edit_that_raises(self):
        sheet = square()
        calls = []
        edits = GOOD_EDITS[:2] + (("swap", (0, 0), (2, 2)),) + GOOD_EDITS
        wanted = (InvalidCell, {"cell": (2, 2)})
        self.check(sheet, edits, wanted, watch=lambda told, index: calls.append(told.filling()))
        self.assertEqual(calls, [(1, 4, 2, 3), (1, 4, 2, 3)])

    def test_watch_may_use_another_sheet(self):
        sheet, other = square(), square()

        def watch(told, index):
            other.do_all((("swap", (0, 0), (0, 1)),))
            self.assertEqual([told.busy, other.busy], [True, False])

        sheet.do_all(GOOD_EDITS, watch=watch)
        self.assertEqual([len(sheet.log()), len(other.log())], [len(GOOD_EDITS)] * 2)

    def test_busy_otherwise(self):
        sheet = square()
        for edit in GOOD_EDITS:
            do(sheet, edit)
            self.assertIs(sheet.busy, False)
        sheet.undo()
        self.assertIs(sheet.busy, False)

    def test_undo_takes_back_one_edit_of_many(self):
        sheet = square()
        sheet.do_all(GOOD_EDITS)
        for count in range(len(GOOD_EDITS) - 1, -1, -1):
            sheet.undo()
            self.assertEqual(sheet, replay(SQUARE, START, GOOD_EDITS[:count]))
            self.assertEqual(sheet.log(), GOOD_EDITS[:count])


class ReplayTest(unittest.TestCase):
    def test_no_tuple(self):
        for value in NOT_TUPLES:
            self.assertEqual(what(raised(replay, SQUARE, START, value)), (InvalidEdit, {"index": None}))

    def test_elements_that_are_no_edits(self):
        for value in NO_EDITS:
            self.assertEqual(what(raised(replay, SQUARE, START, (value,))), (InvalidEdit, {"index": 0}))
            error = raised(replay, SQUARE, START, GOOD_EDITS + (value, None))
            self.assertEqual(what(error), (InvalidEdit, {"index": len(GOOD_EDITS)}))

    def test_elements_that_raise_when_their_turn_comes(self):
        for edit, error, attributes in RAISING:
            for others in ((), (None,), ((),), (RAISING[0][0],)):
                error = raised(replay, SQUARE, START, (edit,) + others)
                self.assertEqual(what(error), (InvalidEdit, {"index": 0}))
                error = raised(replay, SQUARE, START, (("arrange", ()), ("swap", (0, 0), (0, 0)), edit) + others)
                self.assertEqual(what(error), (InvalidEdit, {"index": 2}))
        error = raised(replay, SQUARE, START, (("set", (0, 0), 9), ("set", (0, 1), 9)))
        self.assertEqual(what(error), (InvalidEdit, {"index": 1}))

    def test_the_first_in_order(self):
        # An element that raises comes before a later one that is no edit.
        error = raised(replay, SQUARE, START, (("set", (0, 0), 0), None))
        self.assertEqual(what(error), (InvalidEdit, {"index": 0}))
        error = raised(replay, SQUARE, START, (None, ("set", (0, 0), 0)))
        self.assertEqual(what(error), (InvalidEdit, {"index": 0}))

    def test_too_many_edits(self):
        edit = ("swap", (0, 0), (0, 1))
        self.assertEqual(replay(SQUARE, START, (edit,) * 1000).filling(), START)
        for log in ((edit,) * 1001, (edit,) * 1500, (edit,) * 1000 + (None,)):
            self.assertEqual(what(raised(replay, SQUARE, START, log)), (InvalidEdit, {"index": 1000}))

    def test_result(self):
        sheet = replay(SQUARE, START, GOOD_EDITS)
        self.assertIs(type(sheet), Sheet)
        self.assertEqual(sheet.log(), GOOD_EDITS)
        self.assertIs(sheet.busy, False)
        self.assertEqual(state(replay(SQUARE, START, ())), state(square()))
        sheet.undo()
        self.assertEqual(sheet, replay(SQUARE, START, GOOD_EDITS[:-1]))

    def test_the_values_of_a_full_plan(self):
        plan = block(range(4), range(6))
        filling = tuple(range(24, 0, -1))
        sheet = replay(plan, filling, (("arrange", ("RC",)),))
        self.assertEqual(sheet.filling(), tuple(range(1, 25)))


if __name__ == "__main__":
    unittest.main()
