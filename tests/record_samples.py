"""Records, good and wrong ones, that several tests use."""

import itertools

from samples import CORNER, PLAN, PLAN_FAULTS, SQUARE, block, drawn_plan, nested, sort_by_hand

RECORD = (CORNER, ("bo", "al", "cy"), "R", ("al", "bo", "cy"))
OTHER = (CORNER, ("al", "bo", "cy"), "C", ("cy", "bo", "al"))
THIRD = (CORNER, ("al", "bo", "cy"), "R", ("bo", "al", "cy"))
IMPOSSIBLE = (CORNER, ("al", "bo", "cy"), "R", ("al", "cy", "bo"))
PAIR = (((0, 0), (0, 1)), ("bo", "al"), "R", ("al", "bo"))
LONGEST = (((0, 0), (7, 7)), ("abcdef", "z"), "C", ("abcdef", "z"))
TWELVE = tuple("abcdefghijkl")
ROW_OF_EIGHT = block([0], range(8))

GOOD_RECORDS = (RECORD, OTHER, THIRD, IMPOSSIBLE, PAIR, LONGEST,
                (block(range(3), range(4)), TWELVE, "R", TWELVE),
                (block(range(2), range(6)), TWELVE, "C", TWELVE[::-1]),
                (SQUARE, ("a", "aa", "aaa", "aaaa"), "R", ("aaaa", "aaa", "aa", "a")))


def wrong_records():
    """Values that are no records."""
    plan, before, kind, after = RECORD
    for value, index in PLAN_FAULTS:
        yield (value, before, kind, after)
    for value in ((), None, list(plan), CORNER[:2], PLAN, ((0, 0),), block([0], range(3)) + ((0, 3),), (plan,)):
        yield (value, before, kind, after)
    yield (((0, 0),), ("al",), "R", ("al",))
    thirteen = TWELVE + ("m",)
    yield (block(range(2), range(7))[:13], thirteen, "R", thirteen)
    yield (block(range(4), range(6)), tuple("abcdefghijklmnopqrstuvwx"), "R", tuple("abcdefghijklmnopqrstuvwx"))
    for value in ("abcdefg", "", "Al", "aL", "a1", "1", "a b", " a", "a ", "a\n", "\n", "a-b", "a_b", "bo", "bo ",
                  None, 0, 5, True, False, b"al", ("al",), ["al"], (), {"al"}, {"al": 1}, object(), "a" * 2000,
                  nested(8)):
        yield (plan, ("bo", value, "cy"), kind, ("bo", value, "cy"))
        yield (plan, ("bo", value, "cy"), kind, after)
        yield (plan, before, kind, ("bo", value, "cy"))
    for value in (("bo", "al"), ("bo", "al", "cy", "di"), (), ["bo", "al", "cy"], "bac", {"bo", "al", "cy"},
                  None, True, 0, b"bac", ("cy", "cy", "cy"), (("bo", "al", "cy"),), {"bo": 1, "al": 2, "cy": 3},
                  nested(9)):
        yield (plan, value, kind, after)
        yield (plan, before, kind, value)
        yield (plan, value, kind, value)
    for value in ("r", "c", "", "RC", "x", " R", None, 0, True, ("R",), ["R"], b"R", {"R"}, object()):
        yield (plan, before, value, after)
    for names in (("al", "bo", "di"), ("al", "bo", "cx"), ("a", "b", "c"), ("al", "al", "cy"), ("al", "bo", "bo")):
        yield (plan, before, kind, names)
    yield from ((), (plan,), RECORD[:3], RECORD + (None,), RECORD + RECORD, list(RECORD), "bac", None, True, False,
                0, 4, 10 ** 59, b"abcd", {}, {1, 2, 3, 4}, dict(enumerate(RECORD)), (RECORD,), (None,) * 4,
                ("a", "b", "R", "c"), object(), nested(9))


WRONG_RECORDS = tuple(wrong_records())

# Values that are no tuples of 1 to 20 elements, so that the index is None whatever the elements are.
NO_RECORDS = ((), [], [RECORD], [None], (RECORD,) * 21, (None,) * 21, (0,) * 50, "", "records", b"", None, True,
              False, 0, 1, 10 ** 59, {}, {RECORD}, {RECORD: RECORD}, object())


def explains(order, record):
    """Whether a sort of values in this order turns `before` into `after`."""
    plan, before, kind, after = record
    values = sort_by_hand(plan, tuple(order.index(name) + 1 for name in before), kind)
    return tuple(order[value - 1] for value in values) == after


def orders_by_search(records):
    """All orders that explain all records, in ascending order."""
    return [order for order in itertools.permutations(sorted(records[0][1]))
            if all(explains(order, record) for record in records)]


def drawn_names(draw, count):
    names = set()
    while len(names) < count:
        names.add("".join(draw.choice("abcxyz") for at in range(draw.randint(1, 6))))
    return sorted(names)


def plan_of_size(draw, size):
    while True:
        plan = drawn_plan(draw, 12)
        if len(plan) >= size:
            return tuple(sorted(draw.sample(plan, size)))


def drawn_record(draw, names, order=None):
    """A record of these names: of this order, or, without an order, any one with a line or two in disorder."""
    plan = plan_of_size(draw, len(names))
    kind = draw.choice("RC")
    before = tuple(draw.sample(names, len(names)))
    told = order or draw.sample(names, len(names))
    values = sort_by_hand(plan, tuple(told.index(name) + 1 for name in before), kind)
    after = [told[value - 1] for value in values]
    if order is None and draw.randint(0, 5) == 0:
        one, other = draw.sample(range(len(names)), 2)
        after[one], after[other] = after[other], after[one]
    return (plan, before, kind, tuple(after))


def drawn_records(draw, size, count):
    """Records of one order, or of an order each, so that often no order explains them together."""
    names = drawn_names(draw, size)
    order = draw.choice((None, draw.sample(names, size)))
    return tuple(drawn_record(draw, names, order) for at in range(count))
