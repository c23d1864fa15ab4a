"""The checker of certificates: what it accepts is true, no matter who wrote it.

It rests on nothing but plans, fillings and sorts, so that a fault in the
modules that find answers does not make it accept a wrong one.
"""

from keepsort.fillings import is_filling
from keepsort.limits import SMALL
from keepsort.plans import is_between, is_kind, is_plan, lines
from keepsort.sorting import (after, are_records, is_sorted, is_word, other_kind, seen_pairs, sort_lines, sorted_along)


def keeps_by_corners(plan):
    """Tell whether each two cells, one to the lower right of the other, have both or none of the other two corners."""
    for upper, left in plan:
        for lower, right in plan:
            if upper < lower and left < right and ((upper, right) in plan) != ((lower, left) in plan):
                return False
    return True


def short_word(plan, word):
    """Return a short word with the same effect: on a plan that keeps, only the first R and the first C matter."""
    may_keep = keeps_by_corners(plan)
    result = ""
    for letter in word:
        known = result if may_keep else result[-1:]
        if letter not in known:
            result += letter
    return result


def end_of(groups, signs, word):
    """Return the signs after the word. As soon as both kinds are sorted, the remaining letters change nothing."""
    result = signs
    idle = 0
    for letter in word:
        changed = sorted_along(groups[letter], result)
        idle = idle + 1 if changed == result else 0
        if idle == 2:
            return result
        result = changed
    return result


def have_same_effect(plan, word, other):
    """Tell whether the words, without doubled letters, do the same to all fillings.

    A sort does to the signs of a filling, which tell the values that reach some
    limit, what it does to the filling. Different results have different signs
    for some limit, so it is enough to try all tables of signs.
    """
    groups = {"R": lines(plan, "R"), "C": lines(plan, "C")}
    for number in range(1 << len(plan)):
        signs = tuple([(number >> index) & 1 for index in range(len(plan))])
        if end_of(groups, signs, word) != end_of(groups, signs, other):
            return False
    return True


def tables_from(plan, filling):
    """Return all tables that words make of the filling, in the order of their first words."""
    groups = (lines(plan, "C"), lines(plan, "R"))
    found = [filling]
    at = 0
    while at < len(found):
        for group in groups:
            table = sorted_along(group, found[at])
            if table not in found:
                found.append(table)
        at += 1
    return found


def are_tables(plan, filling, other):
    """Tell whether these are two fillings of a plan with the same values."""
    if not is_plan(plan) or not is_filling(plan, filling) or not is_filling(plan, other):
        return False
    return sorted(filling) == sorted(other)


def are_words(plan, word, other):
    """Tell whether these are a plan and two words."""
    return is_plan(plan) and is_word(word) and is_word(other)


def accepts_kept(claim, paper):
    """Check a claim ("kept", plan)."""
    return paper is None and is_plan(claim[1]) and keeps_by_corners(claim[1])


def accepts_not_kept(claim, paper):
    """Check a claim ("not kept", plan, kind)."""
    name, plan, kind = claim
    if not is_plan(plan) or not is_kind(kind) or not is_filling(plan, paper):
        return False
    return is_sorted(plan, paper, kind) and not is_sorted(plan, sort_lines(plan, paper, other_kind(kind)), kind)


def accepts_same(claim, paper):
    """Check a claim ("same", plan, word, other)."""
    name, plan, word, other = claim
    if paper is not None or not are_words(plan, word, other):
        return False
    one = short_word(plan, word)
    two = short_word(plan, other)
    return one == two or (len(plan) <= SMALL and have_same_effect(plan, one, two))


def accepts_different(claim, paper):
    """Check a claim ("different", plan, word, other)."""
    name, plan, word, other = claim
    if not are_words(plan, word, other) or not is_filling(plan, paper):
        return False
    return after(plan, paper, word) != after(plan, paper, other)


def accepts_comes(claim, paper):
    """Check a claim ("comes", plan, filling, other)."""
    name, plan, filling, other = claim
    return are_tables(plan, filling, other) and is_word(paper) and after(plan, filling, paper) == other


def accepts_never(claim, paper):
    """Check a claim ("never", plan, filling, other)."""
    name, plan, filling, other = claim
    if not are_tables(plan, filling, other) or not isinstance(paper, tuple):
        return False
    tables = tables_from(plan, filling)
    if len(paper) != len(tables):
        return False
    last = len(plan) - 1
    return all([is_between(at, 0, last) and table[at] != other[at] for at, table in zip(paper, tables)])


def explains(order, record):
    """Tell whether values in this order turn into one another as the record tells."""
    plan, before, kind, result = record
    filling = tuple([order.index(name) + 1 for name in before])
    return sort_lines(plan, filling, kind) == tuple([order.index(name) + 1 for name in result])


def accepts_order(claim, paper):
    """Check a claim ("order", records)."""
    records = claim[1]
    if not are_records(records) or not isinstance(paper, tuple):
        return False
    names = records[0][1]
    # The names differ, so in a tuple of as many elements there is none besides them.
    if len(paper) != len(names) or not all([name in paper for name in names]):
        return False
    return all([explains(paper, record) for record in records])


def is_step(records, step):
    """Tell whether the step is a comparison of the record with its index."""
    if not isinstance(step, tuple) or len(step) != 3 or not is_between(step[2], 0, len(records) - 1):
        return False
    pairs = seen_pairs(records[step[2]])
    return pairs is not None and step[:2] in pairs


def is_cycle(records, steps):
    """Tell whether the steps are comparisons that lead from a name back to itself."""
    if not isinstance(steps, tuple) or len(steps) == 0 or not all([is_step(records, step) for step in steps]):
        return False
    return all([step[1] == following[0] for step, following in zip(steps, steps[1:] + steps[:1])])


def accepts_no_order(claim, paper):
    """Check a claim ("no order", records)."""
    records = claim[1]
    if not are_records(records) or not isinstance(paper, tuple) or len(paper) != 2:
        return False
    if paper[0] == "impossible":
        return is_between(paper[1], 0, len(records) - 1) and seen_pairs(records[paper[1]]) is None
    return paper[0] == "cycle" and is_cycle(records, paper[1])


# Each claim's first element, the number of its elements and what checks it.
CLAIMS = (
    ("kept", 2, accepts_kept),
    ("not kept", 3, accepts_not_kept),
    ("same", 4, accepts_same),
    ("different", 4, accepts_different),
    ("comes", 4, accepts_comes),
    ("never", 4, accepts_never),
    ("order", 2, accepts_order),
    ("no order", 2, accepts_no_order),
)


def check(claim, paper):
    """Tell whether the paper is a certificate for the claim. Any values may be passed."""
    if not isinstance(claim, tuple) or len(claim) == 0:
        return False
    for name, size, accepts in CLAIMS:
        if claim[0] == name and len(claim) == size:
            return accepts(claim, paper)
    return False
