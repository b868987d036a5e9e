"""Houses: each does deeds, takes those of the others, and tells what it holds."""

from doneranges.counts import check_many, check_one_of
from doneranges.deeds import in_order, is_change, is_deed, name_of, rows_of, stamp, word_of
from doneranges.errors import BadDeed, NoDeed
from doneranges.rows import check_rows, fewest, held_by_many, is_in, last_in, whole_in, without
from doneranges.stores import is_lasting, no_worths, standing, worths_behind

# No deed has so small a stamp.
NEVER_CUT = (0, 0, 0)


class House:
    """One of two to six houses."""

    def __init__(self, me, many):
        check_many(many)
        check_one_of(me, many)
        self._me = me
        self._many = many
        self._time = 0
        # All that is held, cut off or not.
        self._rows = []
        # The deeds that weren't cut off, by their names.
        self._kept = {}
        # The number of each bye that is held, by its house.
        self._ends = {}
        # What was cut off, its worths, and the stamp up to which it was.
        self._gone = []
        self._base = no_worths()
        self._mark = NEVER_CUT

    def do(self, word, key, worth):
        """Put or add, and tell the deed."""
        if word not in ("put", "add") or not is_change([key, worth]):
            raise BadDeed(0)
        return self._do_next((word, key, worth))

    def back(self, house, number):
        """Take a deed back, and tell the deed that does."""
        deed = self._kept.get((house, number))
        if deed is None or is_lasting(deed) or self._is_sealed(house, number):
            raise NoDeed("no deed that can be taken back")
        return self._do_next(("back", house, number))

    def seal(self):
        """Seal all that the house holds, and tell the deed."""
        return self._do_next(("seal", tuple(self._rows)))

    def bye(self):
        """Do the house's last deed, and tell it."""
        return self._do_next(("bye",))

    def take(self, deeds):
        """Hold deeds from now on; tell the names of those that weren't held, by their stamps."""
        for at, deed in enumerate(deeds):
            if not is_deed(deed) or deed[0] >= self._many:
                raise BadDeed(at)
        new = [deed for deed in in_order(deeds) if not is_in(self._rows, deed[0], deed[1])]
        self._meet(new)
        return [name_of(deed) for deed in new]

    def done(self):
        """Tell the set that the house holds."""
        return list(self._rows)

    def deeds(self):
        """Tell the deeds that weren't cut off, by their stamps."""
        return in_order(list(self._kept.values()))

    def cut_off(self):
        """Tell the set of the deeds that were cut off."""
        return list(self._gone)

    def worths(self):
        """Tell the worths of all deeds that the house holds."""
        return worths_behind(self._base, self.deeds(), self._gone)

    def alive(self):
        """Tell the names of the deeds that weren't cut off or taken back, by their stamps."""
        return [name_of(deed) for deed in standing(self.deeds(), self._gone)]

    def byes(self):
        """Tell the houses whose bye is held, rising."""
        return sorted(self._ends)

    def lacks(self, rows):
        """Tell what of a set the house doesn't hold."""
        check_rows(rows)
        return without(rows, self._rows)

    def gives(self, rows):
        """Tell the deeds of a set that the house holds and that weren't cut off, by their stamps."""
        check_rows(rows)
        return [deed for deed in self.deeds() if is_in(rows, deed[0], deed[1])]

    def gave_up(self, rows):
        """Tell what of a set the house holds, but cut off."""
        check_rows(rows)
        return held_by_many([rows, self._gone], 2)

    def now(self):
        """Tell the greatest time that the house met."""
        return self._time

    def number(self):
        """Tell which house it is."""
        return self._me

    def count(self):
        """Tell how many houses there are."""
        return self._many

    def unheard(self, top):
        """Tell the first house not held without a gap up to this stamp or its bye, None if there is none."""
        for maker in range(self._many):
            if not self._is_heard(maker, top):
                return maker
        return None

    def cut_to(self, top):
        """Cut off all deeds with a stamp no greater than this one; tell the set of these."""
        line = self.deeds()
        cut_now = [deed for deed in line if stamp(deed) <= top]
        self._base = worths_behind(self._base, cut_now, self._gone)
        self._gone = fewest(self._gone + rows_of(cut_now))
        self._mark = top
        self._drop_gone(line)
        return rows_of(cut_now)

    def carried(self):
        """Tell all that the house holds in one tuple, for merge."""
        ends = [(maker, self._ends[maker]) for maker in sorted(self._ends)]
        cut_part = (self._mark, tuple(self._gone), tuple(self._base))
        return (tuple(self._rows), tuple(self.deeds()), tuple(ends), cut_part, self._time)

    def merge(self, told):
        """Hold also what carried told of a house; tell the set that wasn't held ahead."""
        rows, deeds, ends, cut_part, time = told
        ahead = self._rows
        self._rows = fewest(ahead + list(rows))
        self._time = max(self._time, time)
        for maker, number in ends:
            self._ends[maker] = number
        mark, gone, base = cut_part
        if mark > self._mark:
            self._mark = mark
            self._gone = list(gone)
            self._base = list(base)
        # What one of both kept may be cut off by the other.
        self._drop_gone(self.deeds() + list(deeds))
        return without(self._rows, ahead)

    def _do_next(self, what):
        """Do the house's next deed, and tell it."""
        if self._me in self._ends:
            raise NoDeed("the house said bye")
        deed = (self._me, last_in(self._rows, self._me) + 1, self._time + 1, what)
        self._meet([deed])
        return deed

    def _meet(self, new):
        """Hold deeds that weren't held."""
        for deed in new:
            self._kept[name_of(deed)] = deed
            self._time = max(self._time, deed[2])
            if word_of(deed) == "bye":
                self._ends[deed[0]] = deed[1]
        self._rows = fewest(self._rows + rows_of(new))

    def _drop_gone(self, deeds):
        """Keep of these deeds those that weren't cut off."""
        self._kept = {name_of(deed): deed for deed in deeds if not is_in(self._gone, deed[0], deed[1])}

    def _is_sealed(self, house, number):
        """Tell whether a seal that wasn't cut off has a deed."""
        seals = [deed for deed in self.deeds() if word_of(deed) == "seal"]
        return any(is_in(seal[3][1], house, number) for seal in seals)

    def _is_heard(self, maker, top):
        """Tell whether a house's deeds are held without a gap up to this stamp or its bye."""
        whole = whole_in(self._rows, maker)
        if maker in self._ends and self._ends[maker] <= whole:
            return True
        return any(deed[0] == maker and deed[1] <= whole and stamp(deed) >= top for deed in self.deeds())
