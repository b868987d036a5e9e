"""Rows of deeds: what is one, and what rows come to.

The sums here refuse nothing, and take any count of rows: what two sets come
to may need more rows than a set that is handed in may have.
"""

from doneranges.errors import BadStretches, NoHouse

LAST_HOUSE = 7
LIMIT = 10 ** 12
MOST_ROWS = 200


def is_number(value, low, high):
    """Tell whether a value is a whole number from low to high."""
    # True and False would pass as 1 and 0.
    return isinstance(value, int) and not isinstance(value, bool) and low <= value <= high


def is_house(value):
    """Tell whether a value is the number of a house."""
    return is_number(value, 0, LAST_HOUSE)


def is_row(row):
    """Tell whether a value is a row (house, first, last)."""
    if not isinstance(row, tuple) or len(row) != 3:
        return False
    house, first, last = row
    return is_house(house) and is_number(first, 1, LIMIT) and is_number(last, first, LIMIT)


def first_wrong(rows):
    """Tell the place of the first row that can't be in a set, None if there is none."""
    for at, row in enumerate(rows[:MOST_ROWS]):
        if not is_row(row):
            return at
    return MOST_ROWS if len(rows) > MOST_ROWS else None


def check_rows(rows):
    """Refuse what is no set of deeds."""
    at = first_wrong(rows)
    if at is not None:
        raise BadStretches(at)


def check_house(house):
    """Refuse a house beyond."""
    if not is_house(house):
        raise NoHouse("the houses are numbered from 0 to 7")


def is_in(rows, house, number):
    """Tell whether a deed is in rows."""
    return any(maker == house and first <= number <= last for maker, first, last in rows)


def changes_of(weighed):
    """Tell of pairs (row, weight) at which (house, number) their sum of weights changes, and by what."""
    changes = {}
    for (house, first, last), weight in weighed:
        changes[(house, first)] = changes.get((house, first), 0) + weight
        changes[(house, last + 1)] = changes.get((house, last + 1), 0) - weight
    return changes


def reaching(weighed, least):
    """Tell, by the fewest rows, rising, what pairs (row, weight) weigh least or more on; least is above 0."""
    # All changes at one number are taken as one, so rows side by side become a single one.
    # The changes of a house come to 0 behind its last row, so none goes over to the next house.
    changes = changes_of(weighed)
    out = []
    total = 0
    start = 0
    for house, number in sorted(changes):
        ahead = total
        total = ahead + changes[(house, number)]
        if ahead < least <= total:
            start = number
        elif total < least <= ahead:
            out.append((house, start, number - 1))
    return out


def fewest(rows):
    """Tell rows by the fewest rows, rising."""
    return reaching([(row, 1) for row in rows], 1)


def held_by_many(sets, least):
    """Tell what at least so many of some sets hold."""
    # Rows of one set that lie in one another must count once.
    return reaching([(row, 1) for rows in sets for row in fewest(rows)], least)


def without(one, other):
    """Tell what is in the one and not in the other."""
    # What the one holds weighs 1, so a single row of the other is enough to bar it.
    kept = [(row, 1) for row in fewest(one)]
    barred = [(row, -1) for row in other]
    return reaching(kept + barred, 1)


def whole_in(rows, house):
    """Tell up to which number a house's deeds are in rows without a gap, 0 for none."""
    for maker, first, last in fewest(rows):
        if maker == house and first == 1:
            return last
    return 0


def last_in(rows, house):
    """Tell the number of a house's last deed that is in rows, 0 for none."""
    return max([last for maker, _, last in rows if maker == house], default=0)
