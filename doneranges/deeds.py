"""Deeds: tuples (house, number, time, what)."""

from doneranges.errors import BadDeed
from doneranges.rows import LIMIT, fewest, first_wrong, is_house, is_number

LAST_KEY = 5


def stamp(deed):
    """Tell the stamp by which deeds are ordered."""
    house, number, time, _ = deed
    return (time, house, number)


def name_of(deed):
    """Tell the name of a deed, its house and number."""
    return (deed[0], deed[1])


def word_of(deed):
    """Tell the word of what a deed does."""
    return deed[3][0]


def is_change(parts):
    """Tell whether these are the parts of a put or an add."""
    return len(parts) == 2 and is_number(parts[0], 0, LAST_KEY) and is_number(parts[1], -LIMIT, LIMIT)


def is_name(parts):
    """Tell whether these are the house and the number of a deed."""
    return len(parts) == 2 and is_house(parts[0]) and is_number(parts[1], 1, LIMIT)


def is_sealed(parts):
    """Tell whether these are the parts of a seal."""
    if len(parts) != 1 or not isinstance(parts[0], tuple):
        return False
    rows = list(parts[0])
    return first_wrong(rows) is None and fewest(rows) == rows


def is_what(what):
    """Tell whether a value is what a deed can do."""
    if not isinstance(what, tuple) or len(what) == 0:
        return False
    word, *parts = what
    if word == "put" or word == "add":
        return is_change(parts)
    if word == "back":
        return is_name(parts)
    if word == "seal":
        return is_sealed(parts)
    return word == "bye" and len(parts) == 0


def is_deed(deed):
    """Tell whether a value is a deed."""
    if not isinstance(deed, tuple) or len(deed) != 4:
        return False
    house, number, time, what = deed
    return is_name([house, number]) and is_number(time, number, LIMIT) and is_what(what)


def check_deeds(deeds):
    """Refuse what is no list of deeds."""
    for at, deed in enumerate(deeds):
        if not is_deed(deed):
            raise BadDeed(at)


def in_order(deeds):
    """Tell what surely are deeds by their stamps, each once."""
    by_name = {name_of(deed): deed for deed in deeds}
    return sorted(by_name.values(), key=stamp)


def rows_of(deeds):
    """Tell the set of what surely are deeds."""
    return fewest([(deed[0], deed[1], deed[1]) for deed in deeds])


def ordered(deeds):
    """Tell deeds by their stamps, each once."""
    check_deeds(deeds)
    return in_order(deeds)


def stretches(deeds):
    """Tell the set of deeds."""
    check_deeds(deeds)
    return rows_of(deeds)
