"""Plans, fillings and wrong values that several tests use."""

import itertools
import random

CORNER = ((0, 0), (0, 1), (1, 0))
PLAN = ((0, 0), (0, 1), (1, 1), (2, 0))
SKEW = ((0, 1), (0, 2), (1, 0), (1, 1))
SQUARE = ((0, 0), (0, 1), (1, 0), (1, 1))


def block(rows, columns):
    return tuple((row, column) for row in rows for column in columns)


FULL = block(range(3), range(8))
OVER = FULL + ((3, 0),)

# A path that goes down by turns to the right and to below.
STAIRS = tuple(sorted([(at, at) for at in range(8)] + [(at, at + 1) for at in range(7)]))

# Tuples of 1 to 24 elements that are no plans, with the index of the fault.
PLAN_FAULTS = (
    (((0, 2), (0, 0)), 1),
    (((1, 0), (0, 5)), 1),
    (((0, 0), (0, 0)), 1),
    (((0, 0), (0, 1), (0, 1)), 2),
    (((0, 0), (2, 0), (1, 7), (0, 0)), 2),
    (FULL[:23] + ((2, 6),), 23),
    (FULL[:23] + ((2, 8),), 23),
    (((0, 8),), 0),
    (((8, 0),), 0),
    (((0, -1),), 0),
    (((-1, 0),), 0),
    (((0, 0), (0, 8), (0, 1)), 1),
    (((0, 0), (7, 10 ** 59)), 1),
    (([0, 0],), 0),
    (((0, 0), [0, 1]), 1),
    (((0,),), 0),
    (((0, 0, 0),), 0),
    (((0, 0), (1,)), 1),
    (((0, 0), (1, 0, 0)), 1),
    (((),), 0),
    (((0, 0), ()), 1),
    (((True, 0),), 0),
    (((0, True),), 0),
    (((False, 0),), 0),
    (((0, False),), 0),
    (((0, 0), (0, True)), 1),
    (((0, 0), (True, 1)), 1),
    ((0, 0), 0),
    ((None,), 0),
    (((0, 0), None), 1),
    (("00", "01"), 0),
    (((0, 0), "01"), 1),
    ((("0", "0"),), 0),
    (((0, "1"),), 0),
    (((None, 0),), 0),
    ((((0, 0), (0, 1)),), 0),
    (((0, (0,)),), 0),
    ((b"ab",), 0),
    (({0: 0, 1: 0},), 0),
    (({0, 1},), 0),
)

# Values that are no plans, for which the index is None, whatever their elements are.
NO_PLANS = (
    (),
    OVER,
    FULL + (None,),
    (None,) * 25,
    ((0, 0),) * 25,
    ((0, 8),) * 30,
    list(PLAN),
    [],
    [[0, 0]],
    None,
    True,
    False,
    0,
    5,
    -1,
    10 ** 59,
    "",
    "ab",
    "plan",
    b"ab",
    {},
    {(0, 0): 1},
    {(0, 0)},
    object(),
)

ALL_PLAN_FAULTS = PLAN_FAULTS + tuple((value, None) for value in NO_PLANS)

BAD_KINDS = ("r", "c", "", "RC", "RR", " R", "R\n", "X", None, 0, 1, True, False,
             ("R",), ["R"], b"R", {"R"}, {"R": 1}, ())

# Tuples of four elements that are no fillings, with the index of the fault.
FILLING_FAULTS = (
    ((0, 1, 2, 3), 0),
    ((1, 0, 2, 3), 1),
    ((1, 2, 3, 0), 3),
    ((10000, 1, 2, 3), 0),
    ((1, 2, 3, 10000), 3),
    ((1, -1, 0, 0), 1),
    ((1, 2, 10 ** 59, 4), 2),
    ((-10 ** 59, 2, 3, 4), 0),
    ((1, 2, 1, 3), 2),
    ((1, 2, 3, 2), 3),
    ((5, 5, 5, 5), 1),
    ((1, 0, 0, 1), 1),
    ((1, 1, 0, True), 1),
    ((0, 1, 1, 1), 0),
    ((3, 4, True, 3), 2),
    ((True, 2, 3, 4), 0),
    ((2, True, 3, 4), 1),
    ((2, 3, 4, True), 3),
    ((1, True, 3, 4), 1),
    ((False, 2, 3, 4), 0),
    ((1, 2, 3, False), 3),
    ((None, 2, 3, 4), 0),
    ((1, 2, 3, None), 3),
    (("1", "2", "3", "4"), 0),
    ((1, "2", 3, 4), 1),
    ((1, 2, "", 4), 2),
    ((1, 2, 3, (4,)), 3),
    ((1, 2, (), 4), 2),
    ((1, [2], 3, 4), 1),
    ((1, 2, {3}, 4), 2),
    (({}, 2, 3, 4), 0),
    ((1, b"2", 3, 4), 1),
    ((1, 2, object(), 4), 2),
)

# Values that are no fillings of four cells, for which the index is None, whatever their elements are.
NO_FILLINGS = (
    (),
    (1, 2, 3),
    (1, 2, 3, 4, 5),
    (0, 0, 0),
    (True,) * 5,
    (None,) * 3,
    ("1",) * 25,
    [1, 2, 3, 4],
    [],
    "1234",
    "",
    b"1234",
    None,
    True,
    False,
    4,
    10 ** 59,
    {1, 2, 3, 4},
    {1: 1, 2: 2, 3: 3, 4: 4},
    range(1, 5),
    object(),
)

ALL_FILLING_FAULTS = FILLING_FAULTS + tuple((value, None) for value in NO_FILLINGS)

# Values that are no words, with the index of the first other character.
WORD_FAULTS = (
    ("RCX", 2),
    ("X", 0),
    ("r", 0),
    ("Rc", 1),
    (" R", 0),
    ("R ", 1),
    ("R\n", 1),
    ("\n", 0),
    ("RC C", 2),
    ("RCRxyz", 3),
    ("x" * 400, 0),
    ("R" * 399 + "x", 399),
    ("RC" * 201, None),
    ("R" * 401, None),
    ("C" * 400 + "x", None),
    ("x" * 401, None),
    ("x" * 2000, None),
    (None, None),
    (True, None),
    (0, None),
    (10 ** 59, None),
    ((), None),
    (("R",), None),
    (("R", "C"), None),
    (["R"], None),
    (b"RC", None),
    (b"", None),
    ({"R"}, None),
    ({"R": "C"}, None),
    (object(), None),
)

BAD_NUMBERS = (True, False, None, "", "5", "a", (), (5,), [], [5], b"5", {}, {5}, object())


def raised(call, *values, **named):
    """The error that the call raises, None if it raises none."""
    try:
        call(*values, **named)
    except Exception as error:
        return error
    return None


def what(error):
    """The class of an error and its attributes."""
    return error.__class__, dict(vars(error))


def drawn_plan(draw, most=24):
    """Any plan, of any spread, with at most so many cells."""
    rows = sorted(draw.sample(range(8), draw.randint(1, 8)))
    columns = sorted(draw.sample(range(8), draw.randint(1, 8)))
    cells = block(rows, columns)
    count = draw.randint(1, min(most, len(cells)))
    return tuple(sorted(draw.sample(cells, count)))


def drawn_plan_that_keeps(draw, most=24):
    """Any plan without an obstacle: cells are taken away from the first obstacle as long as there is one."""
    plan = set(drawn_plan(draw, most))
    while True:
        found = obstacle_by_search(plan)
        if found is None:
            return tuple(sorted(plan))
        upper, lower, left, right = found
        corners = [cell for cell in block((upper, lower), (left, right)) if cell in plan]
        plan.discard(draw.choice(corners))


def drawn_filling(draw, plan):
    """Any filling of the plan, with values close together or far apart."""
    most = draw.choice((len(plan), 2 * len(plan), 9999))
    return tuple(draw.sample(range(1, most + 1), len(plan)))


def drawn_plans(seed, count, most=24):
    draw = random.Random(seed)
    return [drawn_plan(draw, most) for at in range(count)]


def drawn_tables(seed, count, most=24):
    draw = random.Random(seed)
    plans = [drawn_plan(draw, most) for at in range(count)]
    return [(plan, drawn_filling(draw, plan)) for plan in plans]


def drawn_word(draw, most):
    return "".join(draw.choice("RC") for at in range(draw.randint(0, most)))


def small_plans():
    """All plans in nine cells: close together, spread out, and at the far corner."""
    for places in ((0, 1, 2), (0, 3, 7), (5, 6, 7)):
        yield from plans_within(block(places, places), 9)


def plans_within(cells, most):
    """All plans of at most so many of these cells."""
    for count in range(1, most + 1):
        yield from itertools.combinations(cells, count)


def all_fillings(plan):
    """All orders of values in the plan; effects of sorts depend on nothing else."""
    return itertools.permutations(range(1, len(plan) + 1))


def sort_by_hand(plan, filling, kind):
    """A sort made from a dict of cells, by a walk over the whole grid."""
    values = dict(zip(plan, filling))
    for first in range(8):
        line = [(first, second) if kind == "R" else (second, first) for second in range(8)]
        line = [cell for cell in line if cell in values]
        for cell, value in zip(line, sorted(values[cell] for cell in line)):
            values[cell] = value
    return tuple(values[cell] for cell in plan)


def after_by_hand(plan, filling, word):
    for letter in word:
        filling = sort_by_hand(plan, filling, letter)
    return filling


def is_sorted_by_hand(plan, filling, kind):
    """Whether each two values of a line are in order."""
    side = "RC".index(kind)
    pairs = itertools.combinations(zip(plan, filling), 2)
    return all(low < high for (one, low), (other, high) in pairs if one[side] == other[side])


def reachable_by_search(plan, filling):
    """The first word to each table, by a search over words in their order.

    A word whose beginning leads to a table that a smaller word leads to is
    not tried any further, since that word can take the place of its beginning.
    """
    found = {filling: ""}
    last = [("", filling)]
    while last:
        coming = []
        for word, table in last:
            for letter in "CR":
                result = sort_by_hand(plan, table, letter)
                if result not in found:
                    found[result] = word + letter
                    coming.append((word + letter, result))
        last = coming
    return tuple((word, table) for table, word in found.items())


def obstacle_by_search(plan):
    """The least obstacle among all pairs of rows and all pairs of columns."""
    found = []
    for upper, lower in itertools.combinations(range(8), 2):
        for left, right in itertools.combinations(range(8), 2):
            corners = [cell in plan for cell in block((upper, lower), (left, right))]
            if corners in ([True, False, True, True], [True, True, False, True]):
                found.append((upper, lower, left, right))
    return min(found) if found else None


def nested(depth, word="R", times=2):
    """A program with so many nested programs, itself included, and one word in the innermost one."""
    program = (word,) if word else ()
    for at in range(depth - 1):
        program = (("repeat", times, program),)
    return program


# Tuples that are no programs, with the index of the first step with which they are none.
PROGRAM_FAULTS = (
    (("",), 0),
    (("R", ""), 1),
    (("R", "x"), 1),
    (("R", "C", "RCx", "y"), 2),
    (("r",), 0),
    (("R C",), 0),
    ((" R",), 0),
    (("R\n",), 0),
    (("repeat",), 0),
    (("R" * 401,), 0),
    (("RC" * 200, "RC" * 200 + "R"), 1),
    ((("repeat", 0, ()),), 0),
    (("R", ("repeat", 0, ())), 1),
    ((("repeat", -1, ("R",)),), 0),
    ((("repeat", 10 ** 30 + 1, ("R",)),), 0),
    ((("repeat", 10 ** 59, ()),), 0),
    ((("repeat", True, ("R",)),), 0),
    ((("repeat", False, ("R",)),), 0),
    ((("repeat", "2", ("R",)),), 0),
    ((("repeat", None, ("R",)),), 0),
    ((("repeat", (2,), ("R",)),), 0),
    ((("repeat", [2], ("R",)),), 0),
    ((("repeat", 2),), 0),
    ((("repeat", 2, (), ()),), 0),
    ((("repeat",),), 0),
    (((),), 0),
    ((("R",),), 0),
    ((("R", "C", "R"),), 0),
    (("repeat", 2, ("R",)), 0),
    ((("Repeat", 2, ("R",)),), 0),
    ((("repeat ", 2, ("R",)),), 0),
    ((("", 2, ("R",)),), 0),
    (((b"repeat", 2, ("R",)),), 0),
    (((None, 2, ("R",)),), 0),
    (((["repeat"], 2, ("R",)),), 0),
    ((["repeat", 2, ("R",)],), 0),
    ((("repeat", 2, ["R"]),), 0),
    ((("repeat", 2, []),), 0),
    ((("repeat", 2, "R"),), 0),
    ((("repeat", 2, ""),), 0),
    ((("repeat", 2, None),), 0),
    ((("repeat", 2, ("R", "x")),), 0),
    (("R", "C", ("repeat", 2, ("",)), ""), 2),
    (("R", ("repeat", 2, (("repeat", 0, ()),))), 1),
    (("R", ("repeat", 2, (("repeat", 3, ["R"]),))), 1),
    (("R", None), 1),
    (("R", 0), 1),
    (("R", True), 1),
    ((b"R",), 0),
    (("R", []), 1),
    (("R", {}), 1),
    (({"R"},), 0),
    (("R", object()), 1),
    (("R",) * 61, 60),
    (("R",) * 61 + ("x",), 60),
    (("R",) * 3 + ("x",) + ("R",) * 60, 3),
    (("R",) * 59 + (("repeat", 2, ("R",)),), 59),
    (("R",) * 60 + (("repeat", 2, ()),), 60),
    ((("repeat", 2, ("R",) * 60),), 0),
    ((("repeat", 2, ("R",) * 59), "R"), 1),
    ((("repeat", 2, ("R",) * 30), ("repeat", 2, ("R",) * 29)), 1),
    ((("repeat", 2, ("R",) * 29), ("repeat", 2, ("R",) * 29), "C"), 2),
    ((("repeat", 2, (("repeat", 2, ("R",) * 29), ("repeat", 2, ("R",) * 29))),), 0),
    (nested(6), 0),
    (nested(6, ""), 0),
    (nested(20), 0),
    (("R",) + nested(6), 1),
    (nested(5) + nested(6), 1),
    (("R", "C") + nested(7, "", 1), 2),
)

# Values that are no programs, for which the index is None.
NO_PROGRAMS = ([], ["R"], ["x"], [("repeat", 2, ())], "", "R", "x", b"R", None, True, False, 0, 10 ** 59,
               {}, {"R": 1}, {"R"}, object())

ALL_PROGRAM_FAULTS = PROGRAM_FAULTS + tuple((value, None) for value in NO_PROGRAMS)

PROGRAMS = (
    (),
    ("R",),
    ("C",),
    ("RCCR", "C"),
    ("R" * 400,),
    ("RC" * 200,) * 60,
    ("R",) * 60,
    (("repeat", 1, ()),),
    (("repeat", 1, ("R",)),),
    (("repeat", 10 ** 30, ()),),
    (("repeat", 10 ** 30, ("RC",)),),
    (("repeat", 2, ()),) * 60,
    (("repeat", 2, ("R",)),) * 30,
    (("repeat", 2, ("R",) * 59),),
    (("repeat", 2, ("R",) * 29), ("repeat", 2, ("R",) * 29)),
    ("R",) * 58 + (("repeat", 2, ("R",)),),
    nested(5),
    nested(5, ""),
    nested(5, "RC" * 200, 10 ** 30),
    nested(5) + nested(5) + ("R",) * 50,
    ("RRC", ("repeat", 1000, ("RC", "C"))),
    ("R", ("repeat", 3, ()), "CC"),
    (("repeat", 2, (("repeat", 3, ("C",)), "R", ("repeat", 4, ()))), "C"),
)


def drawn_program(draw, times, most=10, depth=1):
    """Any program of at most so many steps, with repeats of one of these numbers of times."""
    program = []
    room = draw.randint(0, most)
    while room > 0:
        if depth < 5 and draw.randint(0, 2) == 0:
            inner, used = drawn_program(draw, times, min(room - 1, 5), depth + 1)
            program.append(("repeat", draw.choice(times), inner))
            room -= 1 + used
        else:
            program.append(draw.choice("RC") + drawn_word(draw, 3))
            room -= 1
    return tuple(program), count_all_steps(program)


def count_all_steps(program):
    return sum(1 if isinstance(step, str) else 1 + count_all_steps(step[2]) for step in program)


def drawn_programs(seed, count, times):
    draw = random.Random(seed)
    return [drawn_program(draw, times)[0] for at in range(count)]


def written_out(program):
    """All letters of a program, one after another."""
    return "".join(step if isinstance(step, str) else step[1] * written_out(step[2]) for step in program)


def first_of_each_letter(word):
    return "".join(sorted(set(word), key=word.index))
