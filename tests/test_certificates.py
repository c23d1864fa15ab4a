import itertools
import random
import unittest

from keepsort.certificates import keep_certificate, order_certificate, path_certificate, word_certificate
from keepsort.checker import check
from keepsort.errors import (InvalidFilling, InvalidKind, InvalidPlan, InvalidRecord, InvalidWord, OtherValues,
                             TooManyCells)
from keepsort.observations import comparisons
from record_samples import (GOOD_RECORDS, IMPOSSIBLE, NO_RECORDS, OTHER, RECORD, THIRD, TWELVE, WRONG_RECORDS,
                            drawn_record, drawn_records, orders_by_search)
from samples import (ALL_FILLING_FAULTS, ALL_PLAN_FAULTS, BAD_KINDS, CORNER, FULL, OVER, PLAN, SKEW, SQUARE, STAIRS,
                     WORD_FAULTS, after_by_hand, all_fillings, block, drawn_filling, drawn_plan, drawn_plan_that_keeps,
                     drawn_tables, drawn_word, is_sorted_by_hand, obstacle_by_search, raised, reachable_by_search,
                     small_plans, sort_by_hand, what)

START = (1, 4, 3, 2)


class KeepCertificateTest(unittest.TestCase):
    def test_example_of_the_document(self):
        self.assertEqual(keep_certificate(SKEW, "R"), (("kept", ((0, 1), (0, 2), (1, 0), (1, 1))), None))

    def test_the_true_claim_with_an_accepted_paper(self):
        draw = random.Random(600)
        plans = list(small_plans())[::5] + [drawn_plan(draw) for at in range(150)]
        plans += [drawn_plan_that_keeps(draw) for at in range(50)] + [FULL, STAIRS, PLAN]
        seen = set()
        for plan in plans:
            for kind, other in ("RC", "CR"):
                claim, paper = keep_certificate(plan, kind)
                seen.add(claim[0])
                self.assertIs(check(claim, paper), True, claim)
                if obstacle_by_search(plan) is None:
                    self.assertEqual((claim, paper), (("kept", plan), None))
                else:
                    self.assertEqual(claim, ("not kept", plan, kind))
                    self.assertTrue(is_sorted_by_hand(plan, paper, kind))
                    self.assertFalse(is_sorted_by_hand(plan, sort_by_hand(plan, paper, other), kind))
        self.assertEqual(seen, {"kept", "not kept"})

    def test_errors(self):
        for value, index in ALL_PLAN_FAULTS:
            for kind in ("R", "x", None):
                error = raised(keep_certificate, kind=kind, plan=value)
                self.assertEqual(what(error), (InvalidPlan, {"index": index}), value)
        for kind in BAD_KINDS:
            for plan in (PLAN, SQUARE):
                self.assertEqual(what(raised(keep_certificate, plan, kind)), (InvalidKind, {"kind": kind}))

    def test_by_name_and_equal_calls(self):
        for plan in (PLAN, SQUARE, STAIRS):
            wanted = keep_certificate(plan, "C")
            self.assertEqual(keep_certificate(kind="C", plan=plan), wanted)
            self.assertEqual(keep_certificate(plan, kind="C"), wanted)
            self.assertIs(type(wanted), tuple)
            self.assertIs(type(wanted[0]), tuple)


class WordCertificateTest(unittest.TestCase):
    def test_example_of_the_document(self):
        claim, paper = word_certificate(SQUARE, "RC", "CR")
        self.assertEqual([claim[0], check(claim, paper), word_certificate(SQUARE, "RCR", "RC")[1]],
                         ["different", True, None])

    def test_against_all_fillings(self):
        draw = random.Random(610)
        plans = [PLAN, SKEW, SQUARE, CORNER, STAIRS[:5], ((0, 0), (0, 1)),
                 ((3, 3),)] + [drawn_plan(draw, 5) for at in range(10)]
        for plan in plans:
            words = ["", "R", "C", "RC", "CR", "RCR", "CRC", "RRCC", "RCRC", drawn_word(draw, 400)]
            effects = [[after_by_hand(plan, filling, word) for filling in all_fillings(plan)] for word in words]
            for (word, one), (other, two) in itertools.product(zip(words, effects), repeat=2):
                claim, paper = word_certificate(plan, word, other)
                self.assertEqual(claim, ("same" if one == two else "different", plan, word, other))
                self.assertEqual(paper is None, one == two)
                self.assertIs(check(claim, paper), True, claim)

    def test_drawn_plans_and_words(self):
        draw = random.Random(611)
        seen = set()
        for at in range(150):
            plan = drawn_plan(draw, 10)
            word, other = drawn_word(draw, 9), drawn_word(draw, 9)
            claim, paper = word_certificate(plan, word, other)
            seen.add(claim[0])
            self.assertEqual(claim[1:], (plan, word, other))
            self.assertIs(check(claim, paper), True, claim)
            false = ("different" if claim[0] == "same" else "same",) + claim[1:]
            self.assertIs(check(false, paper), False, claim)
            self.assertIs(check(false, drawn_filling(draw, plan)), False, claim)
            self.assertIs(check(false, None), False, claim)
        self.assertEqual(seen, {"same", "different"})

    def test_errors_of_same(self):
        for value, index in ALL_PLAN_FAULTS:
            for word, other in (("R", "C"), (None, "x")):
                error = raised(word_certificate, other=other, word=word, plan=value)
                self.assertEqual(what(error), (InvalidPlan, {"index": index}), value)
        for plan in (STAIRS[:11], FULL, block(range(3), range(4))):
            for word, other in (("R", "R"), ("x", None), ("", "C")):
                error = raised(word_certificate, plan, word, other)
                self.assertEqual(what(error), (TooManyCells, {"count": len(plan)}))
        self.assertEqual(what(raised(word_certificate, OVER, "R", "R")), (InvalidPlan, {"index": None}))
        for value, index in WORD_FAULTS:
            self.assertEqual(what(raised(word_certificate, SQUARE, "R", value)), (InvalidWord, {"index": index}))
            for other in ("R", "CCCCx", None):
                self.assertEqual(what(raised(word_certificate, SQUARE, value, other)), (InvalidWord, {"index": index}))

    def test_by_name_and_equal_calls(self):
        for word, other in (("RC", "CR"), ("RCR", "RC")):
            wanted = word_certificate(SQUARE, word, other)
            self.assertEqual(word_certificate(other=other, word=word, plan=SQUARE), wanted)
            self.assertEqual(word_certificate(SQUARE, word, other=other), wanted)


class PathCertificateTest(unittest.TestCase):
    def test_example_of_the_document(self):
        found = [path_certificate(SQUARE, START, (1, 3, 2, 4))[1], path_certificate(SQUARE, START, (2, 1, 3, 4))]
        self.assertEqual(found, ["RC", (("never", SQUARE, START, (2, 1, 3, 4)), (0, 0, 0, 0))])

    def check_path(self, plan, filling, other):
        found = path_certificate(plan, filling, other)
        pairs = reachable_by_search(plan, filling)
        words = {table: word for word, table in pairs}
        if other in words:
            self.assertEqual(found, (("comes", plan, filling, other), words[other]))
        else:
            least = [min(at for at in range(len(plan)) if table[at] != other[at]) for word, table in pairs]
            self.assertEqual(found, (("never", plan, filling, other), tuple(least)))
        self.assertIs(check(*found), True)
        return found[0][0]

    def test_all_pairs_of_fillings_of_small_plans(self):
        for plan in (((0, 0), (0, 1)), CORNER, PLAN, SKEW, SQUARE):
            seen = set()
            for filling, other in itertools.product(all_fillings(plan), repeat=2):
                seen.add(self.check_path(plan, filling, other))
            self.assertEqual(seen, {"comes", "never"})

    def test_drawn_tables(self):
        draw = random.Random(620)
        tables = drawn_tables(621, 80) + [(STAIRS, tuple(range(15, 0, -1))), (FULL, tuple(range(24, 0, -1)))]
        for plan, filling in tables:
            for word, table in reachable_by_search(plan, filling):
                self.assertEqual(self.check_path(plan, filling, table), "comes")
                if table != filling:
                    self.assertEqual(self.check_path(plan, table, filling), "never")
            for at in range(3):
                self.check_path(plan, filling, tuple(draw.sample(filling, len(plan))))

    def test_errors_of_word_to(self):
        for value, index in ALL_PLAN_FAULTS:
            for filling, other in ((START, START), (None, None), (START, (1, 2, 3, 5))):
                error = raised(path_certificate, other=other, filling=filling, plan=value)
                self.assertEqual(what(error), (InvalidPlan, {"index": index}), value)
        for value, index in ALL_FILLING_FAULTS:
            self.assertEqual(what(raised(path_certificate, SQUARE, START, value)), (InvalidFilling, {"index": index}))
            for other in (START, None, (1, 2, 3, 0), (5, 6, 7, 8)):
                error = raised(path_certificate, SQUARE, value, other)
                self.assertEqual(what(error), (InvalidFilling, {"index": index}))
        for other in ((1, 2, 3, 5), (10, 20, 30, 40)):
            self.assertEqual(what(raised(path_certificate, SQUARE, START, other)), (OtherValues, {}))

    def test_by_name_and_equal_calls(self):
        for other in ((1, 3, 2, 4), (2, 1, 3, 4)):
            wanted = path_certificate(SQUARE, START, other)
            self.assertEqual(path_certificate(other=other, filling=START, plan=SQUARE), wanted)
            self.assertEqual(path_certificate(SQUARE, START, other=other), wanted)


class OrderCertificateTest(unittest.TestCase):
    def test_example_of_the_document(self):
        claim, paper = order_certificate((RECORD, THIRD))
        self.assertEqual([claim[0], paper[0], check(claim, paper)], ["no order", "cycle", True])

    def check_records(self, records):
        claim, paper = order_certificate(records)
        self.assertIs(check(claim, paper), True, records)
        self.assertEqual(claim[1:], (records,))
        false = ("order" if claim[0] == "no order" else "no order", records)
        self.assertIs(check(false, paper), False)
        if claim[0] == "order":
            return claim[0]
        if paper[0] == "impossible":
            self.assertIsNone(comparisons(records[paper[1]]))
        else:
            for smaller, greater, index in paper[1]:
                self.assertIn((smaller, greater), comparisons(records[index]))
        return paper[0]

    def test_against_all_orders(self):
        draw = random.Random(630)
        seen = set()
        for at in range(250):
            records = drawn_records(draw, draw.randint(2, 5), draw.randint(1, 5))
            orders = orders_by_search(records)
            claim, paper = order_certificate(records)
            if orders:
                self.assertEqual((claim, paper), (("order", records), orders[0]))
            else:
                self.assertEqual(claim, ("no order", records))
            seen.add(self.check_records(records))
        self.assertEqual(seen, {"order", "impossible", "cycle"})

    def test_many_names_and_records(self):
        draw = random.Random(631)
        seen = set()
        for at in range(40):
            records = tuple(drawn_record(draw, list(TWELVE),
                                         draw.sample(TWELVE, 12)) for more in range(draw.randint(1, 20)))
            seen.add(self.check_records(records))
        self.assertIn("cycle", seen)

    def test_a_long_cycle_behind_other_comparisons(self):
        plan = block([0], range(3)) + block([1], range(3))
        records = ((plan, tuple("abcdef"), "R", tuple("abcdef")), (plan, tuple("cdfabe"), "R", tuple("cdfabe")),
                   (plan, tuple("fbaced"), "C", tuple("fbaced")))
        self.assertEqual(self.check_records(records), "cycle")
        circle = tuple((CORNER, names, "R", names) for names in (("a", "b", "c"), ("b", "c", "a"), ("c", "a", "b")))
        self.assertEqual(self.check_records(circle), "cycle")
        self.assertEqual(len(order_certificate(circle)[1][1]), 3)

    def test_impossible(self):
        for records in ((IMPOSSIBLE,), (RECORD, IMPOSSIBLE), (RECORD, OTHER, IMPOSSIBLE, IMPOSSIBLE)):
            self.assertEqual(self.check_records(records), "impossible")
        self.check_records((RECORD, THIRD, IMPOSSIBLE))

    def test_single_records(self):
        for record in GOOD_RECORDS:
            self.check_records((record,))
            self.check_records((record,) * 20)

    def test_errors_of_find_order(self):
        for value in NO_RECORDS:
            self.assertEqual(what(raised(order_certificate, value)), (InvalidRecord, {"index": None}), value)
        for value in WRONG_RECORDS:
            self.assertEqual(what(raised(order_certificate, (value,))), (InvalidRecord, {"index": 0}), value)
            self.assertEqual(what(raised(order_certificate, (RECORD, value, 0))), (InvalidRecord, {"index": 1}), value)

    def test_by_name_and_equal_calls(self):
        for records in ((RECORD,), (RECORD, THIRD), (IMPOSSIBLE,)):
            self.assertEqual(order_certificate(records=records), order_certificate(records))
            self.assertIs(type(order_certificate(records)), tuple)


if __name__ == "__main__":
    unittest.main()
