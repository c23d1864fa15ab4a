"""Observed sorts of unknown numbers: which orders of the numbers explain them."""

from keepsort.errors import InvalidRecord, NoOrder, UnknownName
from keepsort.sorting import check_records, is_record, seen_pairs


def comparisons(record):
    """Return the pairs of names that the record shows to be smaller and greater, None if no order explains it."""
    if not is_record(record):
        raise InvalidRecord(None)
    pairs = seen_pairs(record)
    return None if pairs is None else tuple(sorted(pairs))


def names_below(records):
    """Return for each name the list of names that the records compare as smaller, None if a record is impossible."""
    below = {name: [] for name in sorted(records[0][1])}
    for record in records:
        pairs = seen_pairs(record)
        if pairs is None:
            return None
        for smaller, greater in pairs:
            below[greater].append(smaller)
    return below


def find_order(records):
    """Return the least order that explains all records, None if there is none."""
    check_records(records)
    below = names_below(records)
    if below is None:
        return None
    order = []
    while len(order) < len(below):
        free = [name for name in below if name not in order and all([each in order for each in below[name]])]
        if len(free) == 0:
            return None
        order.append(min(free))
    return tuple(order)


def count_orders(records):
    """Return the number of orders that explain all records."""
    check_records(records)
    below = names_below(records)
    if below is None:
        return 0
    names = list(below)
    bits = {name: 1 << index for index, name in enumerate(names)}
    needed = [sum([bits[each] for each in names if each in below[name]]) for name in names]
    # The number of orders of each set of names, which is a sum of bits.
    ways = [1] + [0] * ((1 << len(names)) - 1)
    for taken in range(len(ways)):
        for name, before in zip(names, needed):
            if taken & bits[name] == 0 and taken & before == before:
                ways[taken + bits[name]] += ways[taken]
    return ways[-1]


def names_above(below, name):
    """Return the names that some chain of comparisons shows to be greater than this name."""
    found = [name]
    at = 0
    while at < len(found):
        more = [each for each in below if found[at] in below[each] and each not in found]
        found += more
        at += 1
    return found[1:]


def is_smaller(records, one, other):
    """Tell whether `one` is smaller than `other` in every order that explains all records."""
    check_records(records)
    for name in (one, other):
        if name not in records[0][1]:
            raise UnknownName(name)
    if find_order(records) is None:
        raise NoOrder()
    return other in names_above(names_below(records), one)
