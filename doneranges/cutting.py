"""Cutting deeds off behind a seal, and copies of houses."""

from doneranges.deeds import name_of, stamp, word_of
from doneranges.errors import NoDeed, NotYet
from doneranges.rows import is_in
from doneranges.stores import is_lasting


def seals_of(house):
    """Tell the seals that a house holds and that weren't cut off, by their stamps."""
    return [deed for deed in house.deeds() if word_of(deed) == "seal"]


def found_seal(house, maker, number):
    """Tell the seal of this name that a house holds and that wasn't cut off."""
    for seal in seals_of(house):
        if name_of(seal) == (maker, number):
            return seal
    raise NoDeed("no such seal")


def first_open(house, top):
    """Tell the first deed ahead of a seal's stamp that no seal up to there has, None if there is none."""
    sealed = [row for seal in seals_of(house) if stamp(seal) <= top for row in seal[3][1]]
    for deed in house.deeds():
        if stamp(deed) < top and not is_lasting(deed) and not is_in(sealed, deed[0], deed[1]):
            return deed
    return None


def hindrance(house, seal):
    """Tell why a seal doesn't close, None if it does."""
    top = stamp(seal)
    maker = house.unheard(top)
    if maker is not None:
        return ("unheard", maker)
    deed = first_open(house, top)
    if deed is not None:
        return ("open", deed[0], deed[1])
    return None


def why_not(house, maker, number):
    """Tell why the seal of this name doesn't close at a house, None if it does."""
    return hindrance(house, found_seal(house, maker, number))


def closing(house):
    """Tell the names of all seals that close at a house, by their stamps."""
    return [name_of(seal) for seal in seals_of(house) if hindrance(house, seal) is None]


def cut(house, maker, number):
    """Cut off all deeds up to a seal that closes; tell the set of these."""
    seal = found_seal(house, maker, number)
    if hindrance(house, seal) is not None:
        raise NotYet("the seal doesn't close")
    return house.cut_to(stamp(seal))


def copy(house):
    """Tell a copy of a house: all that it holds, cut off or not."""
    return house.carried()


def renew(house, told):
    """Bring a house a copy; tell the set that it didn't hold ahead."""
    return house.merge(told)
