"""Sending: the least that brings each house all that some house holds."""

from itertools import combinations

from doneranges.counts import MOST_HOUSES
from doneranges.errors import BadCount, NotYet
from doneranges.rows import check_rows, held_by_many, without


def check_handed(dones, bases):
    """Refuse what isn't the two sets of each of one to six houses."""
    if not 1 <= len(dones) <= MOST_HOUSES:
        raise BadCount("one to six houses")
    for rows in dones:
        check_rows(rows)
    if len(bases) != len(dones):
        raise BadCount("two sets for each house")
    for rows in bases:
        check_rows(rows)


def copier(stuck, kept_back):
    """Tell the first house that holds, as what it can't give, all that nobody can give."""
    for giver, rows in enumerate(kept_back):
        if not without(stuck, rows):
            return giver
    raise NotYet("no house can bring what can't be given")


def fewest_givers(lacking, given):
    """Tell the fewest houses that together can give all that lacks, the first of several such."""
    for size in range(len(given)):
        # Groups of one size come as lists of houses ascend.
        for group in combinations(range(len(given)), size):
            if not without(lacking, [row for giver in group for row in given[giver]]):
                return list(group)
    # What no house can give came by a copy, so all together can give the rest.
    return list(range(len(given)))


def letters_to(taker, lacking, given):
    """Tell the letters that bring a house all that lacks, each what none ahead of it brings."""
    letters = []
    rest = lacking
    for giver in fewest_givers(lacking, given):
        letters.append((giver, taker, held_by_many([rest, given[giver]], 2)))
        rest = without(rest, given[giver])
    return letters


def plan(dones, bases):
    """Tell the copies (from, to) and letters (from, to, set) that bring each house all that it lacks."""
    check_handed(dones, bases)
    given = [without(done, base) for done, base in zip(dones, bases)]
    kept_back = [held_by_many([done, base], 2) for done, base in zip(dones, bases)]
    everything = held_by_many(dones, 1)
    # A house lacks nothing that it could give itself, so it need not be left out among the givers.
    givable = held_by_many(given, 1)
    copies = []
    letters = []
    for taker, done in enumerate(dones):
        lacking = without(everything, done)
        stuck = without(lacking, givable)
        if stuck:
            giver = copier(stuck, kept_back)
            copies.append((giver, taker))
            lacking = without(lacking, dones[giver])
        letters.extend(letters_to(taker, lacking, given))
    return (copies, letters)
