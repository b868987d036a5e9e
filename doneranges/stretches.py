"""Sets of deeds, told as stretches: lists of rows (house, first, last)."""

from doneranges.errors import BadCount
from doneranges.rows import check_house, check_rows, fewest, held_by_many, is_in, whole_in, without


def plain(rows):
    """Tell a set by the fewest rows, rising."""
    check_rows(rows)
    return fewest(rows)


def joined(one, other):
    """Tell what is in one or both of two sets."""
    check_rows(one)
    check_rows(other)
    return held_by_many([one, other], 1)


def common(one, other):
    """Tell what is in both of two sets."""
    check_rows(one)
    check_rows(other)
    return held_by_many([one, other], 2)


def less(one, other):
    """Tell what is in the one and not in the other."""
    check_rows(one)
    check_rows(other)
    return without(one, other)


def by_many(sets, least):
    """Tell what at least so many of some sets hold."""
    for rows in sets:
        check_rows(rows)
    if not 1 <= least <= len(sets):
        raise BadCount("at least one set, and no more than there are")
    return held_by_many(sets, least)


def gaps(rows):
    """Tell what lacks of each house ahead of its last deed that is in a set."""
    check_rows(rows)
    return without([(house, 1, last) for house, _, last in rows], rows)


def within(one, other):
    """Tell whether all of the one is in the other."""
    check_rows(one)
    check_rows(other)
    return without(one, other) == []


def has(rows, house, number):
    """Tell whether a deed is in a set."""
    check_rows(rows)
    check_house(house)
    return is_in(rows, house, number)


def amount(rows):
    """Tell how many deeds a set has."""
    check_rows(rows)
    return sum(last - first + 1 for _, first, last in fewest(rows))


def whole_to(rows, house):
    """Tell up to which number a house's deeds are in a set without a gap, 0 for none."""
    check_rows(rows)
    check_house(house)
    return whole_in(rows, house)
