"""Certificates: the true one of two claims, with a paper that the checker accepts."""

from keepsort.effects import difference
from keepsort.keeping import breaking_filling
from keepsort.observations import comparisons, find_order
from keepsort.reach import reachable, word_to


def keep_certificate(plan, kind):
    """Return the certificate that the plan keeps, or that it does not."""
    paper = breaking_filling(plan, kind)
    if paper is None:
        return ("kept", plan), None
    return ("not kept", plan, kind), paper


def word_certificate(plan, word, other):
    """Return the certificate that the words have the same effect on the plan, or that they do not."""
    paper = difference(plan, word, other)
    return ("same" if paper is None else "different", plan, word, other), paper


def first_difference(one, other):
    """Return the first index at which two different fillings differ."""
    return [one[at] == other[at] for at in range(len(one))].index(False)


def path_certificate(plan, filling, other):
    """Return the certificate that some word turns the filling into the other one, or that none does."""
    word = word_to(plan, filling, other)
    if word is not None:
        return ("comes", plan, filling, other), word
    paper = tuple([first_difference(table, other) for first, table in reachable(plan, filling)])
    return ("never", plan, filling, other), paper


def steps_to(steps, name):
    """Return the steps whose greater name is this one."""
    return [step for step in steps if step[1] == name]


def find_cycle(steps):
    """Return steps among these that lead from a name back to itself; there must be some.

    A step whose smaller name is never the greater one is in no cycle. When no
    such step is left, each step has one before it, and a walk backwards comes
    to a name for the second time.
    """
    left = [step for step in steps if len(steps_to(steps, step[0])) > 0]
    if len(left) < len(steps):
        return find_cycle(left)
    walk = [steps[0]]
    names = [steps[0][1]]
    while walk[-1][0] not in names:
        names.append(walk[-1][0])
        walk.append(steps_to(steps, walk[-1][0])[0])
    start = names.index(walk[-1][0])
    return tuple(walk[start:][::-1])


def paper_against(records):
    """Return the paper for records that no order explains."""
    found = [comparisons(record) for record in records]
    if None in found:
        return "impossible", found.index(None)
    steps = [(smaller, greater, index) for index, pairs in enumerate(found) for smaller, greater in pairs]
    return "cycle", find_cycle(steps)


def order_certificate(records):
    """Return the certificate that some order explains all records, or that none does."""
    order = find_order(records)
    if order is not None:
        return ("order", records), order
    return ("no order", records), paper_against(records)
