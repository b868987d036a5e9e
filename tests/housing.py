"""What tests of houses need: all that a house tells, and calls that are watched."""

import copy

from doneranges.cutting import closing, why_not
from doneranges.cutting import copy as copy_of
from doneranges.houses import House

TOP = 10 ** 12
EVERYTHING = [(house, 1, TOP) for house in range(8)]


def state(house):
    """All that a house tells without being handed anything that matters."""
    seals = [deed[:2] for deed in house.deeds() if deed[3][0] == "seal"]
    return {
        "done": house.done(), "deeds": house.deeds(), "cut_off": house.cut_off(), "worths": house.worths(),
        "alive": house.alive(), "byes": house.byes(), "now": house.now(), "number": house.number(),
        "count": house.count(), "lacks": house.lacks(EVERYTHING), "gives": house.gives(EVERYTHING),
        "gave_up": house.gave_up(EVERYTHING), "closing": closing(house), "copy": copy_of(house),
        "why_not": [why_not(house, *name) for name in seals],
    }


def noted(given):
    """What is handed in, to be compared later; houses are compared by their state."""
    return copy.deepcopy([thing for thing in given if not isinstance(thing, House)])


def unchanged(house, call, *given):
    """What a call tells that must change neither the house nor what it is handed, and tell the same again."""
    before, ahead = state(house), noted(given)
    first = call(*given)
    kept = copy.deepcopy(first)
    if isinstance(first, list):
        first.append("changed")
        first.reverse()
    assert state(house) == before, "the house was changed"
    assert noted(given) == ahead, "what was handed in was changed"
    second = call(*given)
    assert second == kept, "a later answer is another one"
    assert second.__class__ is kept.__class__
    return second


def refused(error, house, call, *given):
    """The refusal of this very class that a call ends with; the house and what was handed in stay as they were."""
    before, ahead = state(house), noted(given)
    try:
        answer = call(*given)
    except error as why:
        assert why.__class__ is error, why.__class__
        assert state(house) == before, "the house was changed"
        assert noted(given) == ahead, "what was handed in was changed"
        return why
    raise AssertionError(f"{call.__name__}{given} told {answer!r}")


def houses(many):
    """All houses, without deeds."""
    return [House(me, many) for me in range(many)]


def send(giver, taker):
    """Bring a house all that the other can give."""
    return taker.take(giver.gives(EVERYTHING))


def send_all(all_houses):
    """Bring each house all that the others can give."""
    for giver in all_houses:
        for taker in all_houses:
            send(giver, taker)
