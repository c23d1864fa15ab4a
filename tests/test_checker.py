import ast
import itertools
import os
import random
import unittest

from keepsort.checker import check
from record_samples import (GOOD_RECORDS, IMPOSSIBLE, NO_RECORDS, OTHER, RECORD, THIRD, WRONG_RECORDS, drawn_records,
                            explains, orders_by_search)
from samples import (ALL_FILLING_FAULTS, ALL_PLAN_FAULTS, BAD_KINDS, BAD_NUMBERS, CORNER, FULL, PLAN, SKEW, SQUARE,
                     STAIRS, WORD_FAULTS, after_by_hand, all_fillings, block, drawn_filling, drawn_plan,
                     drawn_plan_that_keeps, drawn_tables, drawn_word, first_of_each_letter, is_sorted_by_hand, nested,
                     obstacle_by_search, plans_within, reachable_by_search, small_plans, sort_by_hand)

WIDE = block(range(2), range(6))
LEFT = STAIRS[:11]
START = (1, 4, 3, 2)
CIRCLE = tuple((CORNER, names, "R", names) for names in (("a", "b", "c"), ("b", "c", "a"), ("c", "a", "b")))

# True claims, each with a paper for it.
CERTIFICATES = (
    (("kept", SQUARE), None),
    (("kept", SKEW), None),
    (("kept", FULL), None),
    (("not kept", PLAN, "R"), (2, 3, 1, 4)),
    (("same", SQUARE, "RCR", "RC"), None),
    (("same", PLAN, "", ""), None),
    (("same", WIDE, "RCRCC", "RRC"), None),
    (("different", SQUARE, "RC", "CR"), START),
    (("comes", SQUARE, START, (1, 3, 2, 4)), "RC"),
    (("comes", SQUARE, START, START), ""),
    (("never", SQUARE, START, (2, 1, 3, 4)), (0, 0, 0, 0)),
    (("order", (RECORD, OTHER)), ("cy", "al", "bo")),
    (("no order", (RECORD, THIRD)), ("cycle", (("al", "bo", 0), ("bo", "al", 1)))),
    (("no order", (RECORD, IMPOSSIBLE)), ("impossible", 1)),
)

# Papers of all forms, and values that are no papers at all.
PAPERS = tuple(paper for claim, paper in CERTIFICATES) + (
    (1, 2, 3, 4), (4, 3, 2, 1), (2, 3, 1, 4), tuple(range(1, 13)), (1, 2, 3), "", "R", "C", "CR", "RC" * 200, (), (0,),
    (0, 0), (3, 3, 3, 3), ("al", "bo", "cy"), ("bo", "al", "cy"), ("impossible", 0), ("impossible", 5), ("cycle", ()),
    ("cycle", (("al", "bo", 0),)), ("cycle", None), ("impossible",), 0, 1, True, False, [], {}, b"", object(),
    nested(9), [1, 2, 3, 4], ["al", "bo", "cy"], {"al", "bo"}, {"cycle": ()}, b"RC", 10 ** 59)

# Claims that are not true, with plans, words, fillings and records as they should be.
FALSE_CLAIMS = (
    ("kept", PLAN),
    ("kept", STAIRS),
    ("not kept", SQUARE, "R"),
    ("not kept", SKEW, "C"),
    ("same", SQUARE, "RC", "CR"),
    ("same", PLAN, "RCR", "RC"),
    ("same", WIDE, "R", "C"),
    ("different", SQUARE, "RCR", "RC"),
    ("different", SQUARE, "", ""),
    ("comes", SQUARE, START, (2, 1, 3, 4)),
    ("comes", SQUARE, (1, 3, 2, 4), START),
    ("never", SQUARE, START, (1, 3, 2, 4)),
    ("never", SQUARE, START, START),
    ("order", (RECORD, THIRD)),
    ("order", (IMPOSSIBLE,)),
    ("no order", (RECORD, OTHER)),
    ("no order", (THIRD,)),
)

STRANGE = (None, True, False, 0, 1, -1, 10 ** 59, "", "kept", b"kept", (), ("kept",), [], {}, set(), object(),
           nested(9), ((((((((((),),),),),),),),),), ["kept", SQUARE], {"kept": SQUARE}, "R", (1, 2, 3, 4))


class ExamplesTest(unittest.TestCase):
    def test_example_of_the_document(self):
        found = [check(("not kept", PLAN, "R"), (2, 3, 1, 4)), check(("not kept", PLAN, "R"), (1, 2, 3, 4)),
                 check(("kept", PLAN), None)]
        self.assertEqual(found, [True, False, False])

    def test_true_claims_with_their_papers(self):
        for claim, paper in CERTIFICATES:
            self.assertIs(check(claim, paper), True, claim)
            self.assertIs(check(paper=paper, claim=claim), True, claim)
            self.assertIs(check(tuple(list(claim)), paper), True, claim)

    def test_false_claims_with_every_paper(self):
        for claim in FALSE_CLAIMS:
            for paper in PAPERS:
                self.assertIs(check(claim, paper), False, (claim, paper))

    def test_true_claims_with_the_papers_of_other_claims(self):
        for claim, paper in CERTIFICATES:
            for other in PAPERS:
                if type(other) is not type(paper):
                    self.assertIs(check(claim, other), False, (claim, other))

    def test_only_none_is_none(self):
        for claim in (("kept", SQUARE), ("same", SQUARE, "RCR", "RC"), ("same", SQUARE, "R", "R")):
            for paper in (False, 0, "", (), [], True, "None", (None,), START):
                self.assertIs(check(claim, paper), False)


class FormsTest(unittest.TestCase):
    def test_strange_claims(self):
        for claim in STRANGE:
            for paper in PAPERS:
                self.assertIs(check(claim, paper), False, claim)

    def test_claims_of_other_lengths(self):
        for claim, paper in CERTIFICATES:
            longer = [claim + (each,) for each in (None, "R", SQUARE)]
            for other in [claim[:count] for count in range(len(claim))] + longer:
                self.assertIs(check(other, paper), False, other)
            self.assertIs(check(list(claim), paper), False)
            self.assertIs(check((claim,), paper), False)
            self.assertIs(check((claim, paper), None), False)

    def test_other_words_in_front(self):
        for claim, paper in CERTIFICATES:
            for word in ("", "Kept", "kept ", "not_kept", "notkept", "equal", "no  order", "SAME", None, True, 0,
                         b"kept", b"same", ("kept",), [claim[0]], (claim[0],), {claim[0]}, claim[0].upper(),
                         claim[0] + "\n", object()):
                self.assertIs(check((word,) + claim[1:], paper), False, (word, claim))

    def test_the_words_of_other_claims(self):
        words = sorted({claim[0] for claim, paper in CERTIFICATES})
        for claim, paper in CERTIFICATES:
            for word in words:
                if word != claim[0]:
                    self.assertIs(check((word,) + claim[1:], paper), False, (word, claim))

    def test_each_place_with_a_strange_value(self):
        for claim, paper in CERTIFICATES:
            for at in range(len(claim)):
                for value in STRANGE:
                    if value == claim[at] or claim[0] in ("same", "different") and value in ("", "R"):
                        continue
                    other = claim[:at] + (value,) + claim[at + 1:]
                    self.assertIs(check(other, paper), False, (other, paper))

    def test_plans_that_are_none(self):
        for value, index in ALL_PLAN_FAULTS:
            for claim, paper in CERTIFICATES[:11]:
                self.assertIs(check((claim[0], value) + claim[2:], paper), False, (claim, value))

    def test_kinds_that_are_none(self):
        for value in BAD_KINDS:
            self.assertIs(check(("not kept", PLAN, value), (2, 3, 1, 4)), False, value)

    def test_fillings_that_are_none(self):
        for value, index in ALL_FILLING_FAULTS:
            self.assertIs(check(("not kept", PLAN, "R"), value), False, value)
            self.assertIs(check(("different", SQUARE, "RC", "CR"), value), False, value)
            for word in ("", "R", "RC"):
                self.assertIs(check(("comes", SQUARE, value, (1, 3, 2, 4)), word), False, value)
                self.assertIs(check(("comes", SQUARE, START, value), word), False, value)
                self.assertIs(check(("comes", SQUARE, value, value), word), False, value)
            for count in range(6):
                self.assertIs(check(("never", SQUARE, value, (2, 1, 3, 4)), (0,) * count), False, value)
                self.assertIs(check(("never", SQUARE, START, value), (0,) * count), False, value)

    def test_words_that_are_none(self):
        for value, index in WORD_FAULTS:
            self.assertIs(check(("same", SQUARE, value, value), None), False, value)
            self.assertIs(check(("same", SQUARE, value, "RC"), None), False, value)
            self.assertIs(check(("same", SQUARE, "RC", value), None), False, value)
            self.assertIs(check(("different", SQUARE, value, "CR"), START), False, value)
            self.assertIs(check(("different", SQUARE, "CR", value), START), False, value)
            self.assertIs(check(("comes", SQUARE, START, (1, 3, 2, 4)), value), False, value)

    def test_records_that_are_none(self):
        for value in WRONG_RECORDS:
            if value == (RECORD,):
                continue
            for records in ((value,), (RECORD, value), (value, RECORD), value):
                for paper in (("al", "bo", "cy"), ("cy", "al", "bo")):
                    self.assertIs(check(("order", records), paper), False, records)
                for paper in (("impossible", 0), ("impossible", 1), ("cycle", (("al", "bo", 0), ("bo", "al", 1)))):
                    self.assertIs(check(("no order", records), paper), False, records)
        for value in NO_RECORDS + (RECORD, (RECORD,) * 21):
            self.assertIs(check(("order", value), ("al", "bo", "cy")), False)
            self.assertIs(check(("no order", value), ("impossible", 0)), False)

    def test_equal_calls_and_what_was_passed_stays(self):
        for claim, paper in CERTIFICATES:
            before = repr((claim, paper))
            self.assertIs(check(claim, paper), check(claim, paper))
            self.assertEqual(repr((claim, paper)), before)


class KeptTest(unittest.TestCase):
    def test_against_a_search(self):
        draw = random.Random(500)
        plans = list(small_plans())[::3] + [drawn_plan(draw) for at in range(200)]
        plans += [drawn_plan_that_keeps(draw) for at in range(100)]
        for plan in plans:
            self.assertIs(check(("kept", plan), None), obstacle_by_search(plan) is None, plan)

    def test_not_kept_against_the_definition(self):
        for plan in plans_within(block(range(3), range(2)), 5):
            for kind, other in ("RC", "CR"):
                for filling in all_fillings(plan):
                    wanted = (is_sorted_by_hand(plan, filling, kind)
                              and not is_sorted_by_hand(plan, sort_by_hand(plan, filling, other), kind))
                    self.assertIs(check(("not kept", plan, kind), filling), wanted, (plan, kind, filling))

    def test_paper_for_the_other_kind(self):
        self.assertIs(check(("not kept", PLAN, "C"), (2, 3, 1, 4)), False)


class WordsTest(unittest.TestCase):
    def test_same_against_all_fillings(self):
        draw = random.Random(510)
        plans = [PLAN, SKEW, SQUARE, CORNER, STAIRS[:5], ((0, 0), (0, 1)), ((0, 0), (1, 0)), ((3, 3),)]
        plans += [drawn_plan(draw, 5) for at in range(20)]
        for plan in plans:
            words = ["", "R", "C", "RC", "CR", "RCR", "CRC", "RRCC", "RCRC", "CRCR", drawn_word(draw, 400)]
            effects = [[after_by_hand(plan, filling, word) for filling in all_fillings(plan)] for word in words]
            for (word, one), (other, two) in itertools.product(zip(words, effects), repeat=2):
                self.assertIs(check(("same", plan, word, other), None), one == two, (plan, word, other))

    def test_same_on_ten_cells(self):
        draw = random.Random(511)
        line = STAIRS[:10]
        for word, other in (("RC" * 200, "RC" * 199), ("RC" * 200, "CR" * 200), ("R", "C"), ("RCRCRCRC", "RCRCRCRCR")):
            found = check(("same", line, word, other), None)
            fillings = [drawn_filling(draw, line) for at in range(40)] + [tuple(range(10, 0, -1))]
            pairs = [(after_by_hand(line, filling, word), after_by_hand(line, filling, other)) for filling in fillings]
            self.assertIs(found, all(one == two for one, two in pairs), (word, other))

    def test_same_on_larger_plans_by_reduced_words_only(self):
        line = block([0], range(8)) + ((1, 0), (2, 1), (3, 2))
        for plan in (WIDE, FULL, LEFT, STAIRS, line):
            keeps = obstacle_by_search(plan) is None
            words = ["", "R", "C", "RC", "CR", "RCR", "CRC", "RRCC", "RCRCRC", "RC" * 200, "CR" * 200, "RC" * 199]
            for word, other in itertools.product(words, repeat=2):
                if keeps:
                    wanted = first_of_each_letter(word) == first_of_each_letter(other)
                else:
                    doubled = [[key for key, group in itertools.groupby(each)] for each in (word, other)]
                    wanted = doubled[0] == doubled[1]
                self.assertIs(check(("same", plan, word, other), None), wanted, (plan, word, other))

    def test_true_claims_without_a_certificate(self):
        # Both words settle every table, but on more than ten cells that is not looked at.
        self.assertIs(check(("same", STAIRS[:10], "RC" * 200, "RC" * 199), None), True)
        self.assertIs(check(("same", STAIRS[:11], "RC" * 200, "RC" * 199), None), False)
        # No column has two cells, so a sort of the columns does nothing.
        plan = block([0], range(3)) + block([1], range(3, 6)) + ((2, 6), (2, 7))
        self.assertIs(check(("same", plan, "R", "RC"), None), True)

    def test_different_against_the_definition(self):
        draw = random.Random(512)
        for plan, filling in drawn_tables(513, 200):
            word, other = drawn_word(draw, 6), drawn_word(draw, 6)
            wanted = after_by_hand(plan, filling, word) != after_by_hand(plan, filling, other)
            self.assertIs(check(("different", plan, word, other), filling), wanted, (plan, word, other, filling))

    def test_different_on_larger_plans(self):
        filling = tuple(range(24, 0, -1))
        self.assertIs(check(("different", FULL, "R", "C"), filling), True)
        self.assertIs(check(("different", FULL, "R", "RR"), filling), False)


class TablesTest(unittest.TestCase):
    def test_comes_against_the_definition(self):
        draw = random.Random(520)
        for plan, filling in drawn_tables(521, 150):
            for word, table in reachable_by_search(plan, filling):
                self.assertIs(check(("comes", plan, filling, table), word), True)
                self.assertIs(check(("comes", plan, filling, table), (word + word[-1:])[:400]), True)
                other = drawn_word(draw, 5)
                wanted = after_by_hand(plan, filling, other) == table
                self.assertIs(check(("comes", plan, filling, table), other), wanted)

    def test_comes_by_a_word_that_is_not_the_first(self):
        self.assertIs(check(("comes", SQUARE, START, (1, 3, 2, 4)), "RCRC" * 100), True)
        self.assertIs(check(("comes", SQUARE, START, (1, 3, 2, 4)), "RC" * 200 + "R"), False)
        self.assertIs(check(("comes", SQUARE, START, (1, 3, 2, 4)), "CR"), False)

    def test_other_values(self):
        for other in ((1, 3, 2, 5), (10, 30, 20, 40), (5, 6, 7, 8)):
            for word in ("", "R", "RC"):
                self.assertIs(check(("comes", SQUARE, START, other), word), False)
            for count in range(6):
                for at in range(4):
                    self.assertIs(check(("never", SQUARE, START, other), (at,) * count), False)

    def test_never_against_the_definition(self):
        draw = random.Random(522)
        plans = [CORNER, PLAN, SKEW, SQUARE, STAIRS[:5]] + [drawn_plan(draw, 6) for at in range(15)]
        for plan in plans:
            filling = drawn_filling(draw, plan)
            tables = [table for word, table in reachable_by_search(plan, filling)]
            for at in range(30):
                other = tuple(draw.sample(filling, len(plan)))
                differ = [[at for at in range(len(plan)) if table[at] != other[at]] for table in tables]
                if all(differ):
                    least = tuple(places[0] for places in differ)
                    most = tuple(places[-1] for places in differ)
                    self.assertIs(check(("never", plan, filling, other), least), True)
                    self.assertIs(check(("never", plan, filling, other), most), True)
                paper = tuple(draw.randrange(len(plan)) for table in tables)
                wanted = all(at in places for at, places in zip(paper, differ))
                self.assertIs(check(("never", plan, filling, other), paper), wanted)

    def test_never_for_all_papers(self):
        filling, other = (3, 2, 1), (3, 1, 2)
        tables = [table for word, table in reachable_by_search(CORNER, filling)]
        seen = set()
        for paper in itertools.product(range(-1, 4), repeat=len(tables)):
            wanted = all(0 <= at < 3 and table[at] != other[at] for at, table in zip(paper, tables))
            seen.add(wanted)
            self.assertIs(check(("never", CORNER, filling, other), paper), wanted, paper)
            self.assertIs(check(("never", CORNER, filling, other), paper[1:]), False)
            self.assertIs(check(("never", CORNER, filling, other), paper + (0,)), False)
        self.assertEqual(seen, {True, False})

    def test_never_with_indexes_at_the_ends_and_beyond(self):
        claim = ("never", SQUARE, START, (2, 3, 4, 1))
        self.assertIs(check(claim, (0, 0, 0, 0)), True)
        self.assertIs(check(claim, (3, 3, 3, 3)), True)
        for at in range(4):
            for value in (4, -1, -4, 5, 10 ** 59, -10 ** 59) + BAD_NUMBERS:
                paper = (0,) * at + (value,) + (0,) * (3 - at)
                self.assertIs(check(claim, paper), False, paper)
        for paper in ((0,) * 3, (0,) * 5, (), [0] * 4, "0000", b"\x00" * 4, ((0, 0, 0, 0),), None, 0,
                      {0: 0, 1: 0, 2: 0, 3: 0}):
            self.assertIs(check(claim, paper), False, paper)

    def test_the_order_of_the_tables_counts(self):
        # From (1, 4, 3, 2) come (1, 4, 3, 2), (1, 2, 3, 4), (1, 4, 2, 3) and (1, 3, 2, 4), in this order.
        claim = ("never", SQUARE, START, (1, 2, 4, 3))
        for paper in itertools.product(range(4), repeat=4):
            tables = (START, (1, 2, 3, 4), (1, 4, 2, 3), (1, 3, 2, 4))
            wanted = all(table[at] != (1, 2, 4, 3)[at] for at, table in zip(paper, tables))
            self.assertIs(check(claim, paper), wanted)

    def test_never_on_a_long_way(self):
        filling = tuple(range(15, 0, -1))
        tables = [table for word, table in reachable_by_search(STAIRS, filling)]
        other = (2, 1) + tuple(range(3, 16))
        paper = tuple([one == two for one, two in zip(table, other)].index(False) for table in tables)
        self.assertGreater(len(paper), 15)
        self.assertIs(check(("never", STAIRS, filling, other), paper), True)
        self.assertIs(check(("never", STAIRS, filling, other), paper[:-1]), False)


class OrdersTest(unittest.TestCase):
    def test_order_against_the_definition(self):
        draw = random.Random(530)
        for at in range(60):
            records = drawn_records(draw, draw.randint(2, 4), draw.randint(1, 4))
            for order in itertools.permutations(records[0][1]):
                wanted = all(explains(order, record) for record in records)
                self.assertIs(check(("order", records), order), wanted, (records, order))

    def test_an_order_that_is_not_the_least(self):
        self.assertIs(check(("order", (RECORD,)), ("cy", "al", "bo")), True)
        self.assertIs(check(("order", (RECORD,)), ("al", "cy", "bo")), True)
        self.assertIs(check(("order", (RECORD,)), ("bo", "al", "cy")), False)

    def test_orders_that_are_none(self):
        for paper in (("al", "bo"), ("al", "bo", "cy", "di"), ("al", "bo", "bo"), ("al", "al", "bo", "cy"),
                      ("al", "bo", "di"), (), ["al", "bo", "cy"], "al bo cy", ("al", "bo", ("cy",)), ("al", "bo", None),
                      ("al", "bo", ["cy"]), None,
                      ("al", "bo", True), (("al", "bo", "cy"),), {"al": 1, "bo": 2, "cy": 3}, ("al", "bo", b"cy"),
                      (1, 2, 3)):
            self.assertIs(check(("order", (RECORD,)), paper), False, paper)

    def test_impossible(self):
        for records, wanted in (((IMPOSSIBLE,), (0,)), ((RECORD, IMPOSSIBLE), (1,)),
                                ((IMPOSSIBLE, RECORD, IMPOSSIBLE), (0, 2)),
                                ((RECORD, THIRD), ()), ((RECORD,), ())):
            for index in range(-4, 5):
                found = check(("no order", records), ("impossible", index))
                self.assertIs(found, index in wanted, (records, index))
            for index in BAD_NUMBERS + ((0,), 10 ** 59):
                self.assertIs(check(("no order", records), ("impossible", index)), False, index)
        for paper in (("impossible",), ("impossible", 0, 0), ["impossible", 0], ("Impossible", 0), (b"impossible", 0),
                      (0,), 0, ("impossible", (0,)), (("impossible", 0),), "impossible", ("", 0), (None, 0), None):
            self.assertIs(check(("no order", (IMPOSSIBLE,)), paper), False, paper)

    def test_impossible_against_the_definition(self):
        draw = random.Random(531)
        for at in range(80):
            records = drawn_records(draw, draw.randint(2, 4), draw.randint(1, 3))
            for index, record in enumerate(records):
                wanted = not orders_by_search((record,))
                self.assertIs(check(("no order", records), ("impossible", index)), wanted, (records, index))

    def test_cycle(self):
        claim = ("no order", (RECORD, THIRD))
        good = (("al", "bo", 0), ("bo", "al", 1))
        self.assertIs(check(claim, ("cycle", good)), True)
        self.assertIs(check(claim, ("cycle", good[::-1])), True)
        self.assertIs(check(claim, ("cycle", good * 2)), True)
        for steps in ((), good[:1], good[1:], good + good[:1], (good[0], good[0]), (good[1], good[1]),
                      (("al", "bo", 1), ("bo", "al", 0)), (("al", "bo", 0), ("bo", "al", 0)), (("al", "al", 0),),
                      (("al", "bo", 0), ("bo", "cy", 1), ("cy", "al", 1)), (("al", "bo", 0), ("bo", "al", 2)),
                      (("al", "bo", -2), ("bo", "al", -1)), (("al", "bo", 0), ("bo", "al", -1)),
                      (("al", "bo", False), ("bo", "al", True)),
                      (("al", "bo", 0), ("bo", "al", True)), (("al", "bo", "0"), ("bo", "al", "1")),
                      (("al", "bo", None), ("bo", "al", None)), (("al", "bo"), ("bo", "al")),
                      (("al", "bo", 0, 0), ("bo", "al", 1, 1)), (["al", "bo", 0], ["bo", "al", 1]),
                      [("al", "bo", 0), ("bo", "al", 1)], (("al", "bo", 0), ["bo", "al", 1]), (("al", "bo", 0), None),
                      None, (None, None), ((), ()), "cycle", 0, True, (("al", "bo", 0), ("bo", "al", (1,))),
                      ((("al",), "bo", 0), ("bo", "al", 1)), (("al", "bo", 0), ("bo", ["al"], 1)), {}, nested(9)):
            self.assertIs(check(claim, ("cycle", steps)), False, steps)
        for paper in (("cycle", good, 0), ("cycle",), ["cycle", good], ("Cycle", good), (b"cycle", good), good,
                      ("", good), (None, good), (good,), (("cycle", good),)):
            self.assertIs(check(claim, paper), False, paper)

    def test_cycle_over_three_records(self):
        claim = ("no order", CIRCLE)
        steps = (("a", "b", 0), ("b", "c", 1), ("c", "a", 2))
        for turn in range(3):
            self.assertIs(check(claim, ("cycle", steps[turn:] + steps[:turn])), True)
        for order in itertools.permutations(steps):
            if order not in (steps, steps[1:] + steps[:1], steps[2:] + steps[:2]):
                self.assertIs(check(claim, ("cycle", order)), False)
        for records in itertools.permutations(CIRCLE):
            if records != CIRCLE:
                self.assertIs(check(("no order", records), ("cycle", steps)), False)

    def test_cycle_with_one_record_in_several_steps(self):
        plan = block([0], range(3))
        records = ((plan, ("a", "b", "c"), "R", ("a", "b", "c")), (plan, ("a", "b", "c"), "R", ("c", "b", "a")))
        self.assertIs(check(("no order", records), ("cycle", (("a", "b", 0), ("b", "a", 1)))), True)
        around = (("a", "b", 0), ("b", "c", 0), ("c", "b", 1), ("b", "a", 1))
        self.assertIs(check(("no order", records), ("cycle", around)), True)
        # Names that do not stand side by side are no comparison.
        self.assertIs(check(("no order", records), ("cycle", (("a", "c", 0), ("c", "a", 1)))), False)

    def test_no_comparisons_of_an_impossible_record(self):
        records = (RECORD, THIRD, IMPOSSIBLE)
        self.assertIs(check(("no order", records), ("cycle", (("al", "bo", 0), ("bo", "al", 1)))), True)
        self.assertIs(check(("no order", (IMPOSSIBLE,)), ("cycle", (("al", "cy", 0), ("cy", "al", 0)))), False)
        swapped = (SQUARE, ("a", "b", "c", "d"), "R", ("a", "b", "d", "c"))
        broken = (SQUARE, ("a", "b", "c", "d"), "R", ("b", "c", "a", "d"))
        other = (SQUARE, ("a", "b", "c", "d"), "R", ("a", "b", "c", "d"))
        steps = (("c", "d", 1), ("d", "c", 0))
        self.assertIs(check(("no order", (swapped, other)), ("cycle", steps)), True)
        self.assertIs(check(("no order", (broken, other)), ("cycle", (("a", "b", 1), ("b", "a", 0)))), False)

    def test_nothing_accepted_is_false(self):
        draw = random.Random(532)
        for at in range(60):
            records = drawn_records(draw, draw.randint(2, 4), draw.randint(1, 3))
            if not orders_by_search(records):
                continue
            names = records[0][1]
            for count in (1, 2, 3):
                for more in range(40):
                    steps = tuple((draw.choice(names), draw.choice(names), draw.randrange(len(records)))
                                  for step in range(count))
                    self.assertIs(check(("no order", records), ("cycle", steps)), False)

    def test_single_records(self):
        for record in GOOD_RECORDS:
            if len(record[0]) <= 5:
                orders = orders_by_search((record,))
                self.assertIs(check(("no order", (record,)), ("impossible", 0)), not orders)
                for order in orders:
                    self.assertIs(check(("order", (record,)), order), True)


class ImportsTest(unittest.TestCase):
    def test_imports_only_what_the_document_names(self):
        folder = os.path.join(os.path.dirname(os.path.abspath(__file__)), os.pardir, "keepsort")
        allowed = {"limits", "errors", "plans", "fillings", "sorting"}
        waiting = ["checker"]
        # What these modules import stays among them too.
        for name in waiting:
            with open(os.path.join(folder, name + ".py"), encoding="ascii") as held:
                tree = ast.parse(held.read())
            for node in ast.walk(tree):
                self.assertNotIsInstance(node, ast.Import)
                if isinstance(node, ast.ImportFrom):
                    package, module = node.module.split(".")
                    self.assertEqual(package, "keepsort")
                    self.assertIn(module, allowed)
                    if module not in waiting:
                        waiting.append(module)


if __name__ == "__main__":
    unittest.main()
