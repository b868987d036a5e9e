"""Promises 5 to 11 at once: houses at work, each beside a plain account of what it must tell."""

import random
import unittest

from doneranges.cutting import closing, cut, renew, why_not
from doneranges.cutting import copy as copy_of
from doneranges.errors import NoDeed, NotYet
from doneranges.houses import House
from helpers import some_rows, spread, told
from housing import refused, state
from slow import each_once, has, name, seals, slow_alive, slow_void, slow_why_not, slow_worths, stamp


class Account:
    """A house, and the names of what it holds and of what was cut off; everything holds all deeds."""

    def __init__(self, me, many, everything):
        self.house = House(me, many)
        self.me, self.many = me, many
        self.everything = everything
        self.held, self.cut = set(), set()

    def deeds(self, names):
        return each_once([self.everything[one] for one in names])

    def kept(self):
        return self.deeds(self.held - self.cut)

    def now(self):
        return max([deed[2] for deed in self.deeds(self.held)], default=0)

    def did(self, deed, what):
        last = max([number for house, number in self.held if house == self.me], default=0)
        assert deed == (self.me, last + 1, self.now() + 1, what), deed
        assert name(deed) not in self.everything
        self.everything[name(deed)] = deed
        self.held.add(name(deed))

    def took(self, letter):
        new = [name(deed) for deed in each_once(letter) if name(deed) not in self.held]
        assert self.house.take(letter) == new
        self.held.update(new)

    def can_back(self, one):
        if one not in self.held - self.cut or self.everything[one][3][0] in ("seal", "bye"):
            return False
        return not any(has(seal[3][1], one) for seal in seals(self.kept()))

    def cut_at(self, seal):
        gone = {name(deed) for deed in self.kept() if stamp(deed) <= stamp(seal)}
        assert cut(self.house, *name(seal)) == told(gone)
        self.cut |= gone

    def renewed(self, copied):
        tuple_of_it, held, gone = copied
        assert renew(self.house, tuple_of_it) == told(held - self.held)
        self.held |= held
        # Of two sets that were cut off the farther one holds the other.
        assert gone <= self.cut or self.cut <= gone
        self.cut |= gone

    def check(self, chance):
        held = {one: self.everything[one] for one in self.held}
        kept = self.kept()
        reasons = [slow_why_not(seal, self.many, held, self.cut) for seal in seals(kept)]
        shown = state(self.house)
        assert shown["done"] == told(self.held), shown
        assert shown["deeds"] == kept, shown
        assert shown["cut_off"] == told(self.cut), shown
        assert shown["worths"] == slow_worths(list(held.values())), shown
        assert shown["alive"] == [one for one in slow_alive(list(held.values())) if one not in self.cut], shown
        assert shown["byes"] == sorted(one[0] for one in self.held if held[one][3] == ("bye",)), shown
        assert shown["now"] == self.now(), shown
        assert shown["why_not"] == reasons, (shown, reasons)
        assert shown["closing"] == [name(seal) for seal, why in zip(seals(kept), reasons) if why is None], shown
        rows = some_rows(chance, list(range(self.many + 1)), 6, 0)
        assert self.house.lacks(rows) == told(spread(rows) - self.held)
        assert self.house.gives(rows) == [deed for deed in kept if name(deed) in spread(rows)]
        assert self.house.gave_up(rows) == told(spread(rows) & self.cut)


class World:
    """Some houses, observers that only take, cut and renew, letters and copies, and what happened how often."""

    def __init__(self, chance, many, seen):
        self.chance, self.many, self.seen = chance, many, seen
        self.everything, self.copies = {}, []
        self.doers = [Account(me, many, self.everything) for me in range(many)]
        self.observers = [Account(0, many, self.everything), Account(many - 1, many, self.everything)]

    def saw(self, what, if_so=True):
        self.seen[what] = self.seen.get(what, 0) + bool(if_so)

    def change(self, one):
        what = (self.chance.choice(["put", "add"]), self.chance.randrange(3), self.chance.randrange(-20, 21))
        one.did(one.house.do(*what), what)

    def back(self, one):
        able = [name(deed) for deed in one.kept() if one.can_back(name(deed))]
        picked = self.chance.choice(able * 3 + sorted(self.everything) + [(0, 99)])
        if one.can_back(picked):
            self.saw("a back of a back", self.everything[picked][3][0] == "back")
            one.did(one.house.back(*picked), ("back",) + picked)
        else:
            refused(NoDeed, one.house, one.house.back, *picked)
            self.saw("a back that is refused")

    def seal(self, one):
        one.did(one.house.seal(), ("seal", tuple(told(one.held))))

    def bye(self, one):
        if self.chance.randrange(16) == 0:
            one.did(one.house.bye(), ("bye",))

    def act(self, one):
        if any(self.everything[name][3] == ("bye",) for name in one.held if name[0] == one.me):
            for call in (one.house.seal, one.house.bye):
                refused(NoDeed, one.house, call)
            self.saw("a deed behind a bye")
            return
        self.chance.choice([self.change] * 4 + [self.back] * 5 + [self.seal] * 2 + [self.bye])(one)

    def send(self, giver, taker):
        letter = [deed for deed in giver.kept() if self.chance.randrange(8) > 0]
        letter += letter[:self.chance.randrange(4)]
        self.chance.shuffle(letter)
        taker.took(letter[:self.chance.choice([3, 100, 100])])

    def cut(self, one):
        for seal in seals(one.kept()):
            held = {name: self.everything[name] for name in one.held}
            if slow_why_not(seal, self.many, held, one.cut) is not None:
                refused(NotYet, one.house, cut, one.house, *name(seal))
                self.saw("a seal that doesn't close")
            elif self.chance.randrange(3) == 0:
                self.saw("a cut behind a cut", one.cut)
                one.cut_at(seal)
                self.saw("a cut")
                return

    def copy(self, one):
        self.copies.append((copy_of(one.house), set(one.held), set(one.cut)))

    def renew(self, one):
        if self.copies:
            copied = self.chance.choice(self.copies[-8:])
            self.saw("a copy that was cut off farther", copied[2] - one.cut)
            self.saw("a copy that was cut off less", one.cut - copied[2] and copied[1] - one.held)
            one.renewed(copied)

    def step(self):
        everyone = self.doers + self.observers
        taker = self.chance.choice(everyone)
        sort = self.chance.randrange(28)
        if sort < 8:
            taker = self.chance.choice(self.doers)
            self.act(taker)
        elif sort < 18:
            self.send(self.chance.choice(everyone), taker)
        elif sort < 21:
            self.cut(taker)
        elif sort < 24:
            self.copy(taker)
        else:
            self.renew(taker)
        taker.check(self.chance)

    def bring_together(self):
        """Bring all to everyone: by letters what they can, the rest by copies."""
        everyone = self.doers + self.observers
        for one in everyone:
            for other in everyone:
                one.took(other.kept())
                if other.held - one.held:
                    one.renewed((copy_of(other.house), set(other.held), set(other.cut)))
        for one in everyone:
            for other in everyone:
                one.took(other.kept())
            one.check(self.chance)
        self.saw("other cuts", len({tuple(sorted(one.cut)) for one in everyone}) > 1)
        self.saw("a void back", slow_void(list(self.everything.values())))


class AgreementTest(unittest.TestCase):
    def test_worlds(self):
        seen = {}
        for turn in range(60):
            chance = random.Random(turn)
            world = World(chance, 2 + turn % 5 if turn % 3 == 0 else 2 + turn % 2, seen)
            with self.subTest(turn=turn):
                for _ in range(160):
                    world.step()
                world.bring_together()
                self.assertEqual(len({tuple(one.house.worths()) for one in world.doers + world.observers}), 1)
        for what in ["a back of a back", "a back that is refused", "a deed behind a bye", "a seal that doesn't close",
                     "a cut", "a cut behind a cut", "a copy that was cut off farther", "a copy that was cut off less",
                     "other cuts", "a void back"]:
            self.assertGreater(seen.get(what, 0), 14, (what, seen))


if __name__ == "__main__":
    unittest.main()
