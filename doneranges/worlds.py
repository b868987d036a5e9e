"""Events: what several houses do and send to one another, played one by one."""

from doneranges.counts import check_many
from doneranges.cutting import copy, cut, renew
from doneranges.deeds import name_of
from doneranges.errors import BadDeed, BadEvent, NoDeed, NotYet
from doneranges.houses import House
from doneranges.rows import is_in, is_number

MOST_EVENTS = 300


class World:
    """Some houses, and the letters and copies that they made so far."""

    def __init__(self, many):
        self.houses = [House(me, many) for me in range(many)]
        self.letters = []
        self.copies = []


def put(world, house, key, worth):
    """Tell the deed that puts."""
    return world.houses[house].do("put", key, worth)


def add(world, house, key, worth):
    """Tell the deed that adds."""
    return world.houses[house].do("add", key, worth)


def back(world, house, other, number):
    """Tell the deed that takes one back."""
    return world.houses[house].back(other, number)


def seal(world, house):
    """Tell the deed that seals."""
    return world.houses[house].seal()


def bye(world, house):
    """Tell the deed that says bye."""
    return world.houses[house].bye()


def send(world, house, other):
    """Make a letter with all that the other lacks and the house can give; tell the names of its deeds."""
    # A house may hold more rows than a set that is handed in may have, so gives can't be asked.
    held = world.houses[other].done()
    letter = [deed for deed in world.houses[house].deeds() if not is_in(held, deed[0], deed[1])]
    world.letters.append(letter)
    return [name_of(deed) for deed in letter]


def take(world, house, letter):
    """Tell what a house tells that takes a letter."""
    return world.houses[house].take(world.letters[letter])


def cut_off(world, house, other, number):
    """Tell the set that a house cuts off behind a seal."""
    return cut(world.houses[house], other, number)


def copied(world, house):
    """Make a copy of a house; tell its number."""
    world.copies.append(copy(world.houses[house]))
    return len(world.copies) - 1


def renewed(world, house, number):
    """Tell the set that a copy brings a house."""
    return renew(world.houses[house], world.copies[number])


ACTIONS = {
    "put": put,
    "add": add,
    "back": back,
    "seal": seal,
    "bye": bye,
    "send": send,
    "take": take,
    "cut": cut_off,
    "copy": copied,
    "renew": renewed,
}

# What must be there for each part of an event. The other house of back and cut needn't: there is no such deed then.
PARTS = {
    "put": ("house", "any", "any"),
    "add": ("house", "any", "any"),
    "back": ("house", "any", "any"),
    "seal": ("house",),
    "bye": ("house",),
    "send": ("house", "house"),
    "take": ("house", "letter"),
    "cut": ("house", "any", "any"),
    "copy": ("house",),
    "renew": ("house", "copy"),
}


def is_there(world, kind, part):
    """Tell whether what a part of an event names is there."""
    counts = {"house": len(world.houses), "letter": len(world.letters), "copy": len(world.copies)}
    return kind == "any" or is_number(part, 0, counts[kind] - 1)


def is_event(world, event):
    """Tell whether a value is an event that this world can play next."""
    if not isinstance(event, tuple) or len(event) == 0 or event[0] not in list(PARTS):
        return False
    word, *parts = event
    kinds = PARTS[word]
    return len(parts) == len(kinds) and all([is_there(world, kind, part) for kind, part in zip(kinds, parts)])


def answer(world, event):
    """Play an event; tell what it tells, or by which word it is refused."""
    word, *parts = event
    action = ACTIONS[word]
    try:
        return action(world, *parts)
    except BadDeed:
        return "bad"
    except NoDeed:
        return "none"
    except NotYet:
        return "not yet"


def played(many, events):
    """Tell what each event tells, and the houses behind all of them."""
    check_many(many)
    world = World(many)
    told = []
    for at, event in enumerate(events[:MOST_EVENTS]):
        if not is_event(world, event):
            raise BadEvent(at)
        told.append(answer(world, event))
    if len(events) > MOST_EVENTS:
        raise BadEvent(MOST_EVENTS)
    return (told, world.houses)
