"""Promises 1 and 11 over the whole program: from events to worths, leads, plans and texts."""

import copy
import random
import unittest

from byhand import ByHand
from doneranges.cutting import closing, cut, renew
from doneranges.cutting import copy as copy_of
from doneranges.deeds import stretches
from doneranges.houses import House
from doneranges.leads import Lead, Seat, wrongly
from doneranges.notes import read, read_deed, written, written_deed
from doneranges.sending import plan
from doneranges.stores import alive, worths
from doneranges.stretches import joined
from doneranges.worlds import played
from helpers import spread, told
from housing import EVERYTHING, state
from slow import slow_worths


def some_world(turn, length):
    """A world played by hand, its events, and each deed that was done, by its name."""
    chance = random.Random(turn)
    world, events, deeds = ByHand(2 + turn % 5), [], {}
    for _ in range(length):
        events.append(world.some_event(chance))
        answer = world.play(events[-1])
        if events[-1][0] in ("put", "add", "back", "seal", "bye") and isinstance(answer, tuple):
            deeds[answer[:2]] = answer
        yield world, events, deeds


def worlds_at_the_end(count, length):
    for turn in range(count):
        *_, end = some_world(turn, length)
        yield end


class SameWorthsTest(unittest.TestCase):
    def test_worths_hang_on_the_stretches_alone(self):
        seen = {"again": 0, "cut otherwise": 0}
        for turn in range(30):
            known = {}
            for world, _, deeds in some_world(turn, 150):
                for house in world.houses:
                    held = tuple(house.done())
                    all_deeds = [deeds[name] for name in spread(held)]
                    if held in known:
                        self.assertEqual(house.worths(), known[held][0])
                        seen["again"] += 1
                        seen["cut otherwise"] += house.cut_off() != known[held][1]
                    else:
                        self.assertEqual(house.worths(), slow_worths(all_deeds))
                        self.assertEqual(house.worths(), worths(all_deeds))
                    known[held] = house.worths(), house.cut_off()
        self.assertGreater(seen["again"], 300, seen)
        self.assertGreater(seen["cut otherwise"], 4, seen)

    def test_whatever_was_cut_off(self):
        seen = 0
        for world, _, deeds in worlds_at_the_end(60, 150):
            whole = House(0, len(world.houses))
            whole.take(list(deeds.values()))
            for at, name in enumerate(closing(whole)):
                cut_once = House(1, len(world.houses))
                renew(cut_once, copy_of(whole))
                cut(cut_once, *name)
                for later in closing(whole)[at + 1:]:
                    cut(cut_once, *later)
                    seen += 1
                    self.assertEqual((cut_once.done(), cut_once.worths()), (whole.done(), whole.worths()))
                whole_again = House(0, len(world.houses))
                renew(whole_again, copy_of(cut_once))
                whole_again.take(list(deeds.values()))
                self.assertEqual((whole_again.done(), whole_again.worths()), (whole.done(), whole.worths()))
            self.assertEqual(whole.worths(), slow_worths(list(deeds.values())))
        self.assertGreater(seen, 60)

    def test_nothing_is_lost_by_cutting(self):
        cuts = 0
        for world, _, deeds in worlds_at_the_end(60, 200):
            for house in world.houses:
                all_deeds = [deeds[name] for name in spread(house.done())]
                self.assertEqual(joined(stretches(house.deeds()), house.cut_off()), house.done())
                self.assertEqual(stretches(all_deeds), house.done())
                self.assertEqual(house.alive(), [name for name in alive(all_deeds)
                                                 if name not in spread(house.cut_off())])
                cuts += bool(house.cut_off())
        self.assertGreater(cuts, 40)

    def test_any_order_doubled_or_lost(self):
        for turn, (world, _, deeds) in enumerate(worlds_at_the_end(40, 100)):
            chance = random.Random(turn)
            letters = list(deeds.values()) * 2
            houses = played(len(world.houses), [])[1]
            for house in houses:
                chance.shuffle(letters)
                for start in range(0, len(letters), 5):
                    house.take(letters[start:start + 5])
            self.assertEqual(len({repr((house.done(), house.worths(), house.deeds())) for house in houses}), 1)
            # Of some, a part is lost; what is held alone counts.
            some = chance.sample(list(deeds.values()), len(deeds) // 2)
            one, other = played(len(world.houses), [])[1][:2]
            one.take(some)
            other.take(some[::-1] + some)
            self.assertEqual((one.done(), one.worths()), (other.done(), other.worths()))
            self.assertEqual((one.done(), one.worths()), (stretches(some), slow_worths(some)))


class TogetherTest(unittest.TestCase):
    def test_texts_of_what_houses_tell(self):
        for world, _, deeds in worlds_at_the_end(40, 150):
            for house in world.houses:
                for rows in (house.done(), house.cut_off(), house.lacks(EVERYTHING)):
                    self.assertEqual(read(written(rows)), rows)
                for deed in house.deeds():
                    self.assertEqual(read_deed(written_deed(deed)), deed)

    def test_plans_of_what_houses_tell(self):
        for world, events, _ in worlds_at_the_end(60, 150):
            houses = world.houses
            copies, letters = plan([house.done() for house in houses], [house.cut_off() for house in houses])
            brought = [spread(house.done()) for house in houses]
            for giver, taker in copies:
                brought[taker] |= spread(houses[giver].done())
            for giver, taker, rows in letters:
                self.assertEqual(stretches(houses[giver].gives(rows)), rows)
                self.assertFalse(brought[taker] & spread(rows))
                brought[taker] |= spread(rows)
            everything = set().union(*[spread(house.done()) for house in houses])
            self.assertEqual(brought, [everything] * len(houses))

    def test_a_lead_of_what_houses_tell(self):
        for world, _, _ in worlds_at_the_end(40, 100):
            dones = [house.done() for house in world.houses]
            seats, lead = [Seat() for _ in dones], Lead(len(dones))
            for seat, rows in enumerate(dones):
                seats[seat].hold(rows)
                lead.heard(seat, seats[seat].ask(1))
            lead.begin(lead.must())
            self.assertEqual(wrongly(lead.must(), dones), [])
            self.assertEqual(lead.must(), told(set().union(*[spread(rows) for rows in dones])))
            for seat in range(len(dones)):
                lead.kept(seat, seats[seat].keep(1, lead.must()))
            self.assertEqual(lead.shown(), lead.must())
            self.assertEqual(wrongly(lead.shown(), dones), [])


class NothingChangesTest(unittest.TestCase):
    def test_asked_again_and_changed_by_whoever_got_it(self):
        for world, events, _ in worlds_at_the_end(20, 120):
            before = [state(house) for house in world.houses]
            ahead = copy.deepcopy(events)
            dones, bases = [house.done() for house in world.houses], [house.cut_off() for house in world.houses]
            given = copy.deepcopy((dones, bases))
            for call in (lambda: plan(dones, bases), lambda: wrongly(dones[0], dones), lambda: written(dones[0]),
                         lambda: played(len(dones), events)[0], lambda: read(written(dones[0]))):
                first = call()
                kept = copy.deepcopy(first)
                self.change(first)
                self.assertEqual(call(), kept)
            self.assertEqual(((dones, bases), events), (given, ahead))
            self.assertEqual([state(house) for house in world.houses], before)

    def change(self, thing):
        """Change every list in what was told, the inner ones first."""
        if isinstance(thing, (list, tuple)):
            for part in thing:
                self.change(part)
        if isinstance(thing, list):
            thing.append("changed")


if __name__ == "__main__":
    unittest.main()
