"""What several tests need: sets told the slow way, and calls that are watched."""

import copy
import random

TOP = 10 ** 12


def spread(rows):
    """All deeds of a small set, one by one."""
    return {(house, number) for house, first, last in rows for number in range(first, last + 1)}


def told(names):
    """Deeds (house, number) by the fewest rows, rising."""
    rows = []
    for house, number in sorted(names):
        if rows and rows[-1][0] == house and rows[-1][2] == number - 1:
            rows[-1] = (house, rows[-1][1], number)
        else:
            rows.append((house, number, number))
    return rows


def some_rows(chance, houses, most, base):
    """Up to most rows of some houses, in any order, alike, in one another, side by side, behind base."""
    rows = []
    for _ in range(chance.randrange(most + 1)):
        first = chance.randrange(1, 15)
        last = min(14, first + chance.choice([0, 0, 1, 2, 5, 13]))
        rows.append((chance.choice(houses), base + first, base + last))
    if rows and chance.randrange(3) == 0:
        rows.append(chance.choice(rows))
    return rows


def many_sets(count, how_many):
    """How many lists of sets there are to be, and how many sets in each; the same each time."""
    chance = random.Random(20)
    kinds = [([0], 3), ([7], 9), ([0, 7], 6), ([2, 3, 4], 9), (list(range(8)), 40)]
    for turn in range(count):
        houses, most = kinds[turn % len(kinds)]
        base = [0, TOP - 14][turn // len(kinds) % 2]
        yield [some_rows(chance, houses, most, base) for _ in range(how_many)]


def apart(house, step, start=1, count=200):
    """A set of so many rows that don't touch."""
    return [(house, start + step * k, start + step * k) for k in range(count)]


def refusal(error, call, *given):
    """The refusal of this very class that a call ends with; what was handed in must stay as it was."""
    ahead = copy.deepcopy(given)
    try:
        answer = call(*given)
    except error as refused:
        assert refused.__class__ is error, refused.__class__
        assert given == ahead, "what was handed in was changed"
        return refused
    raise AssertionError(f"{call.__name__}{given} told {answer!r}")


def asked(call, *given):
    """What a call tells; it must leave what it is handed, and tell the same again, in a list of its own."""
    ahead = copy.deepcopy(given)
    first = call(*given)
    kept = copy.deepcopy(first)
    if isinstance(first, list):
        assert all(first is not thing for thing in given)
        first.append("changed")
        first.reverse()
    assert given == ahead, "what was handed in was changed"
    second = call(*given)
    assert second == kept, "a later answer is another one"
    assert second.__class__ is kept.__class__
    return second
