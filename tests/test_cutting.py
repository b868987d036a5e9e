"""Promises 9, 10 and 11: which seals close, cutting off, copies."""

import itertools
import unittest

from doneranges.cutting import closing, cut, renew, why_not
from doneranges.cutting import copy as copy_of
from doneranges.errors import NoDeed, NotYet
from doneranges.houses import House
from doneranges.stores import alive, worths
from helpers import TOP
from housing import EVERYTHING, houses, refused, send, state, unchanged


def holding(many, deeds, me=0):
    """A house that holds these deeds."""
    house = House(me, many)
    house.take(deeds)
    return house


def put(house, number, time):
    return (house, number, time, ("put", 0, number))


def seal(house, number, time, *rows):
    return (house, number, time, ("seal", rows))


class WhyNotTest(unittest.TestCase):
    def told(self, many, deeds, name, expected):
        for me in range(many):
            house = holding(many, deeds, me)
            self.assertEqual(unchanged(house, why_not, house, *name), expected)
            self.assertEqual(name in unchanged(house, closing, house), expected is None)
            if expected is not None:
                refused(NotYet, house, cut, house, *name)

    def test_unheard_tells_the_first_house(self):
        deeds = [seal(1, 1, 5)]
        self.told(4, deeds, (1, 1), ("unheard", 0))
        deeds += [put(0, 1, 6)]
        self.told(4, deeds, (1, 1), ("unheard", 2))
        deeds += [put(3, 1, 6)]
        self.told(4, deeds, (1, 1), ("unheard", 2))
        deeds += [put(2, 1, 6)]
        self.told(4, deeds, (1, 1), None)

    def test_a_house_without_deeds_is_unheard(self):
        self.told(2, [seal(0, 1, 1)], (0, 1), ("unheard", 1))
        self.told(3, [seal(0, 1, 1), put(1, 1, 2)], (0, 1), ("unheard", 2))

    def test_stamps_equal_in_time(self):
        # Of house 0 it is lesser, of house 2 not.
        self.told(3, [seal(1, 1, 5), put(0, 1, 5), put(2, 1, 6)], (1, 1), ("unheard", 0))
        self.told(3, [seal(1, 1, 5), put(0, 1, 6), put(2, 1, 4)], (1, 1), ("unheard", 2))
        self.told(3, [seal(1, 1, 5), put(0, 1, 6), put(2, 1, 5)], (1, 1), None)
        self.told(2, [seal(1, 1, 5), put(0, 1, 5), put(0, 2, 6)], (1, 1), ("open", 0, 1))

    def test_a_gap_is_unheard(self):
        deeds = [seal(0, 1, 5), put(1, 1, 2), put(1, 3, 7)]
        self.told(2, deeds, (0, 1), ("unheard", 1))
        self.told(2, deeds + [put(1, 4, 8)], (0, 1), ("unheard", 1))
        self.told(2, deeds + [put(1, 2, 6)], (0, 1), ("open", 1, 1))
        # A gap behind a deed that is late enough bars nothing.
        self.told(2, [seal(0, 1, 5), put(1, 1, 6), put(1, 3, 9)], (0, 1), None)

    def test_a_gap_ahead_of_the_seal_itself(self):
        deeds = [seal(0, 2, 5), put(1, 1, 6)]
        self.told(2, deeds, (0, 2), ("unheard", 0))
        self.told(2, deeds + [put(0, 1, 1)], (0, 2), ("open", 0, 1))
        self.told(2, deeds + [seal(0, 1, 1)], (0, 2), None)

    def test_a_bye_is_late_enough(self):
        self.told(2, [seal(0, 1, 5), (1, 1, 1, ("bye",))], (0, 1), None)
        self.told(2, [seal(0, 1, 5), (1, 2, 2, ("bye",))], (0, 1), ("unheard", 1))
        self.told(2, [seal(0, 1, 5, (1, 1, 1)), (1, 2, 2, ("bye",)), put(1, 1, 1)], (0, 1), None)

    def test_any_deed_is_late_enough(self):
        for what in [("put", 0, 1), ("add", 0, 1), ("back", 0, 1), ("seal", ()), ("bye",)]:
            self.told(2, [seal(0, 1, 5), (1, 1, 6, what)], (0, 1), None)

    def test_open_tells_the_first_by_stamps(self):
        deeds = [seal(0, 3, 9, (0, 2, 2)), put(0, 2, 4), put(0, 1, 3), put(1, 1, 3), (1, 2, 4, ("back", 0, 2)),
                 put(1, 3, 10)]
        self.told(2, deeds, (0, 3), ("open", 0, 1))
        deeds[0] = seal(0, 3, 9, (0, 1, 2))
        self.told(2, deeds, (0, 3), ("open", 1, 1))
        deeds[0] = seal(0, 3, 9, (0, 1, 2), (1, 1, 1))
        self.told(2, deeds, (0, 3), ("open", 1, 2))
        deeds[0] = seal(0, 3, 9, (0, 1, 2), (1, 1, 2))
        self.told(2, deeds, (0, 3), None)

    def test_unheard_is_told_ahead_of_open(self):
        self.told(2, [put(0, 1, 1), seal(0, 2, 2)], (0, 2), ("unheard", 1))

    def test_what_must_be_sealed(self):
        for what, why in [(("put", 0, 1), ("open", 1, 1)), (("add", 0, 1), ("open", 1, 1)),
                          (("back", 5, 1), ("open", 1, 1)), (("seal", ()), None)]:
            self.told(2, [(1, 1, 1, what), seal(0, 1, 5), put(1, 2, 6)], (0, 1), why)
        self.told(2, [(1, 1, 1, ("bye",)), seal(0, 1, 5)], (0, 1), None)

    def test_what_is_taken_back_must_be_sealed_too(self):
        deeds = [put(0, 1, 1), (1, 1, 2, ("back", 0, 1)), seal(0, 2, 5, (1, 1, 1)), put(1, 2, 6)]
        self.told(2, deeds, (0, 2), ("open", 0, 1))

    def test_sealed_by_another_seal(self):
        deeds = [put(1, 1, 1), put(1, 2, 2), seal(0, 1, 3, (1, 1, 1)), seal(1, 3, 6, (1, 2, 2)), put(0, 2, 8)]
        self.told(2, deeds, (0, 1), ("open", 1, 2))
        self.told(2, deeds, (1, 3), None)
        # A seal whose stamp is greater doesn't count.
        deeds += [seal(0, 3, 9, (0, 2, 2)), seal(1, 4, 9, (1, 1, 3))]
        self.told(2, deeds, (0, 1), ("open", 1, 2))
        self.told(2, deeds, (0, 3), None)

    def test_sealed_by_another_seal_of_equal_time(self):
        ahead = [put(1, 1, 1), seal(1, 2, 5), put(0, 2, 7)]
        self.told(2, ahead + [seal(0, 1, 5, (1, 1, 1))], (1, 2), None)
        ahead = [put(1, 1, 1), seal(0, 1, 5), put(0, 2, 7)]
        self.told(2, ahead + [seal(1, 2, 5, (1, 1, 1))], (0, 1), ("open", 1, 1))
        self.told(2, ahead + [seal(1, 2, 5, (1, 1, 1))], (1, 2), None)

    def test_a_deed_of_equal_time(self):
        # Of house 0 it is ahead of the seal, of house 2 behind.
        self.told(3, [seal(1, 1, 5), put(0, 1, 5), put(0, 2, 6), put(2, 1, 5)], (1, 1), ("open", 0, 1))
        self.told(3, [seal(1, 1, 5), put(0, 1, 6), put(2, 1, 5)], (1, 1), None)

    def test_what_is_behind_the_seal_may_be_open(self):
        self.told(2, [seal(0, 1, 5), put(1, 1, 6), put(0, 2, 7)], (0, 1), None)

    def test_closing_by_stamps(self):
        deeds = [seal(1, 2, 4), seal(1, 1, 3), seal(2, 1, 3), seal(0, 1, 3), (0, 2, 5, ("bye",)), seal(2, 2, 5),
                 seal(1, 3, 6)]
        for order in itertools.permutations(deeds, 7):
            if order[0][0] == 0:
                self.assertEqual(closing(holding(3, order)), [(0, 1), (1, 1), (2, 1), (1, 2), (2, 2)])
        house = holding(3, deeds)
        self.assertEqual(unchanged(house, closing, house), [(0, 1), (1, 1), (2, 1), (1, 2), (2, 2)])
        self.assertEqual(closing(House(0, 2)), [])

    def test_no_such_seal(self):
        house = holding(2, [seal(0, 1, 3), put(0, 2, 4), (0, 3, 5, ("back", 0, 2)), put(1, 1, 4), (1, 2, 5, ("bye",))])
        for name in [(0, 2), (0, 3), (1, 1), (1, 2), (0, 4), (0, 0), (1, 3), (2, 1), (8, 1), (-1, 1), (0, TOP + 1)]:
            refused(NoDeed, house, why_not, house, *name)
            refused(NoDeed, house, cut, house, *name)
        self.assertEqual(cut(house, 0, 1), [(0, 1, 1)])
        # What was cut off is no such seal any more.
        refused(NoDeed, house, why_not, house, 0, 1)
        refused(NoDeed, house, cut, house, 0, 1)
        self.assertEqual(closing(house), [])


class CutTest(unittest.TestCase):
    def test_tells_and_cuts_all_up_to_the_seal(self):
        deeds = [put(0, 1, 1), put(1, 1, 2), (1, 2, 3, ("back", 0, 1)), seal(0, 2, 4, (0, 1, 1), (1, 1, 2)),
                 put(1, 3, 4), (1, 4, 6, ("add", 0, 3))]
        house = holding(2, deeds)
        self.assertEqual(house.worths(), [6, 0, 0, 0, 0, 0])
        self.assertEqual(cut(house, 0, 2), [(0, 1, 2), (1, 1, 2)])
        self.assertEqual(house.done(), [(0, 1, 2), (1, 1, 4)])
        self.assertEqual(house.cut_off(), [(0, 1, 2), (1, 1, 2)])
        self.assertEqual(house.deeds(), deeds[4:])
        self.assertEqual(house.alive(), [(1, 3), (1, 4)])
        self.assertEqual(house.worths(), [6, 0, 0, 0, 0, 0])
        self.assertEqual(house.now(), 6)

    def test_the_worths_that_were_cut_off_count_ahead(self):
        deeds = [put(0, 7, 7), (0, 8, 8, ("put", 1, 5)), seal(0, 9, 9, (0, 1, 8))]
        deeds += [seal(0, number, number) for number in range(1, 7)]
        deeds += [(1, 1, 10, ("add", 0, 2)), (1, 2, 11, ("put", 1, 3)), (1, 3, 12, ("add", 1, 1))]
        house = holding(2, deeds)
        self.assertEqual(house.worths(), [9, 4, 0, 0, 0, 0])
        cut(house, 0, 9)
        self.assertEqual(house.worths(), [9, 4, 0, 0, 0, 0])
        # What stays can be taken back still.
        house.back(1, 1)
        house.back(1, 2)
        self.assertEqual(house.worths(), [7, 6, 0, 0, 0, 0])

    def test_one_cut_behind_another(self):
        deeds = [put(0, 1, 1), seal(0, 2, 2, (0, 1, 1)), put(1, 1, 3), (0, 3, 4, ("back", 1, 1)),
                 seal(1, 2, 5, (0, 1, 3), (1, 1, 1)), put(0, 4, 9)]
        house = holding(2, deeds)
        self.assertEqual(closing(house), [(0, 2), (1, 2)])
        self.assertEqual(cut(house, 0, 2), [(0, 1, 2)])
        self.assertEqual(closing(house), [(1, 2)])
        self.assertEqual(house.worths(), worths(deeds))
        # It tells what it cuts off, not what was so ahead.
        self.assertEqual(cut(house, 1, 2), [(0, 3, 3), (1, 1, 2)])
        self.assertEqual(house.cut_off(), [(0, 1, 3), (1, 1, 2)])
        self.assertEqual(house.deeds(), [put(0, 4, 9)])
        self.assertEqual(house.worths(), worths(deeds))
        # At once it comes to the same.
        at_once = holding(2, deeds)
        self.assertEqual(cut(at_once, 1, 2), [(0, 1, 3), (1, 1, 2)])
        self.assertEqual(state(at_once), state(house))

    def test_a_seal_ahead_of_one_that_is_cut_is_cut_off_open_or_not(self):
        # What the first seal misses, the second one has.
        deeds = [put(0, 1, 1), seal(1, 1, 2), seal(0, 2, 3, (0, 1, 1)), put(1, 2, 4)]
        house = holding(2, deeds)
        self.assertEqual(why_not(house, 1, 1), ("open", 0, 1))
        self.assertEqual(cut(house, 0, 2), [(0, 1, 2), (1, 1, 1)])
        refused(NoDeed, house, why_not, house, 1, 1)

    def test_heard_by_what_was_cut_off_and_what_was_not(self):
        deeds = [seal(0, 1, 1), put(1, 1, 2), seal(0, 2, 3, (1, 1, 1))]
        house = holding(2, deeds)
        cut(house, 0, 1)
        self.assertEqual(why_not(house, 0, 2), ("unheard", 1))
        house.take([put(1, 2, 4)])
        self.assertIsNone(why_not(house, 0, 2))

    def test_heard_by_a_bye_that_was_cut_off(self):
        deeds = [put(1, 1, 1), (1, 2, 2, ("bye",)), seal(0, 1, 3, (1, 1, 2)), put(0, 2, 4),
                 seal(0, 3, 5, (0, 1, 2), (1, 1, 2)), seal(0, 4, 6)]
        house = holding(2, deeds)
        cut(house, 0, 1)
        self.assertEqual(house.byes(), [1])
        self.assertIsNone(why_not(house, 0, 3))
        cut(house, 0, 3)
        self.assertIsNone(why_not(house, 0, 4))
        renewed = House(1, 2)
        renew(renewed, copy_of(house))
        self.assertEqual(closing(renewed), [(0, 4)])
        self.assertEqual(cut(renewed, 0, 4), [(0, 4, 4)])
        self.assertEqual((renewed.worths(), renewed.cut_off()), (worths(deeds), [(0, 1, 4), (1, 1, 2)]))

    def test_what_was_cut_off_need_not_be_sealed(self):
        deeds = [put(0, 1, 1), seal(0, 2, 2, (0, 1, 1)), put(1, 1, 3), seal(1, 2, 4, (1, 1, 1)), put(0, 3, 6)]
        house = holding(2, deeds)
        cut(house, 0, 2)
        self.assertIsNone(why_not(house, 1, 2))

    def test_a_back_of_what_was_cut_off_is_void(self):
        deeds = [put(0, 1, 1), seal(0, 2, 2, (0, 1, 1)), (1, 1, 3, ("add", 0, 4))]
        backs = [(1, 2, 4, ("back", 0, 1)), (1, 3, 5, ("back", 1, 1)), (1, 4, 6, ("back", 1, 2))]
        for many in range(4):
            house, whole = holding(2, deeds), holding(2, deeds + backs[:many])
            cut(house, 0, 2)
            house.take(backs[:many])
            self.assertEqual(house.worths(), whole.worths())
            self.assertEqual([(0, 1), (0, 2)] + house.alive(), whole.alive())
        self.assertEqual(house.worths(), [1, 0, 0, 0, 0, 0])
        self.assertEqual(house.alive(), [(1, 3), (1, 4)])
        self.assertEqual(house.done(), [(0, 1, 2), (1, 1, 4)])

    def test_a_void_back_is_cut_off(self):
        deeds = [put(0, 1, 1), seal(1, 1, 2, (0, 1, 1)), (2, 1, 3, ("back", 0, 1)),
                 seal(0, 2, 4, (0, 1, 1), (1, 1, 1), (2, 1, 1)), put(1, 2, 5), put(2, 2, 5)]
        house = holding(3, deeds)
        cut(house, 0, 2)
        self.assertEqual(house.worths(), worths(deeds))
        self.assertEqual(house.worths(), [2, 0, 0, 0, 0, 0])
        # First the seal that makes it void, then the back.
        house = holding(3, deeds)
        self.assertEqual(cut(house, 1, 1), [(0, 1, 1), (1, 1, 1)])
        self.assertEqual(cut(house, 0, 2), [(0, 2, 2), (2, 1, 1)])
        self.assertEqual(house.worths(), [2, 0, 0, 0, 0, 0])


class CopyTest(unittest.TestCase):
    def ahead_and_behind(self):
        """One house that cut off and went on, and one that holds a part of it and a deed of its own."""
        one, other = houses(2)
        one.do("put", 0, 5)
        one.do("put", 1, 6)
        one.back(0, 2)
        send(one, other)
        other.seal()
        send(other, one)
        one.do("add", 0, 1)
        other.do("add", 0, 2)
        cut(one, 1, 1)
        return one, other

    def test_a_copy_is_a_tuple_and_stays(self):
        one, other = self.ahead_and_behind()
        told = unchanged(one, copy_of, one)
        self.assertIsInstance(told, tuple)
        # No list or dict in it, so nothing of it can change, whoever has it.
        hash(told)
        kept = repr(told)
        one.do("put", 2, 2)
        one.seal()
        one.bye()
        send(other, one)
        self.assertEqual(repr(told), kept)
        new = House(0, 2)
        self.assertEqual(renew(new, told), [(0, 1, 4), (1, 1, 1)])
        new.do("put", 3, 3)
        self.assertEqual(repr(told), kept)

    def test_of_a_house_without_deeds(self):
        for house in (House(0, 2), self.ahead_and_behind()[0]):
            before = state(house)
            self.assertEqual(renew(house, copy_of(House(1, 2))), [])
            self.assertEqual(state(house), before)

    def test_a_new_house_becomes_the_same(self):
        for ahead in self.ahead_and_behind():
            new = House(ahead.number(), 2)
            self.assertEqual(renew(new, copy_of(ahead)), ahead.done())
            self.assertEqual(state(new), state(ahead))
            self.assertEqual(renew(new, copy_of(ahead)), [])
            self.assertEqual(state(new), state(ahead))
            # They go on alike, and not with one another.
            before = state(ahead)
            deed = new.do("put", 5, 5)
            self.assertEqual(state(ahead), before)
            self.assertEqual(ahead.do("put", 5, 5), deed)

    def test_of_one_that_was_cut_off_farther(self):
        one, other = self.ahead_and_behind()
        self.assertEqual(renew(other, copy_of(one)), [(0, 4, 4)])
        self.assertEqual(other.done(), [(0, 1, 4), (1, 1, 2)])
        self.assertEqual(other.cut_off(), [(0, 1, 3), (1, 1, 1)])
        self.assertEqual(other.deeds(), [(0, 4, 5, ("add", 0, 1)), (1, 2, 5, ("add", 0, 2))])
        self.assertEqual(other.worths(), [8, 0, 0, 0, 0, 0])
        self.assertEqual(other.alive(), [(0, 4), (1, 2)])
        self.assertEqual(other.now(), 5)
        refused(NoDeed, other, other.back, 0, 1)

    def test_of_one_that_was_not_cut_off(self):
        one, other = self.ahead_and_behind()
        self.assertEqual(renew(one, copy_of(other)), [(1, 2, 2)])
        self.assertEqual(one.done(), [(0, 1, 4), (1, 1, 2)])
        self.assertEqual(one.cut_off(), [(0, 1, 3), (1, 1, 1)])
        self.assertEqual(one.deeds(), [(0, 4, 5, ("add", 0, 1)), (1, 2, 5, ("add", 0, 2))])
        self.assertEqual(one.worths(), [8, 0, 0, 0, 0, 0])

    def test_tells_what_was_not_held_cut_off_or_not(self):
        one, _ = self.ahead_and_behind()
        third = House(1, 2)
        third.take([(0, 1, 1, ("put", 0, 5)), (0, 3, 3, ("back", 0, 2))])
        self.assertEqual(renew(third, copy_of(one)), [(0, 2, 2), (0, 4, 4), (1, 1, 1)])

    def test_an_old_copy_of_itself(self):
        house = House(0, 2)
        told = [copy_of(house)]
        for step in [lambda: house.do("put", 0, 1), house.seal, lambda: house.take([put(1, 1, 3)]),
                     lambda: cut(house, 0, 2), lambda: house.back(1, 1), house.bye]:
            step()
            told.append(copy_of(house))
        before = state(house)
        for old in told + told[::-1]:
            self.assertEqual(renew(house, old), [])
            self.assertEqual(state(house), before)
        # And a new house from all of them, in any order.
        for order in itertools.permutations(told, 4):
            new = House(0, 2)
            for old in order + (told[-1],):
                renew(new, old)
            self.assertEqual(state(new), before)

    def test_times_are_met(self):
        one, other = houses(2)
        one.take([put(0, 1, 40)])
        other.take([put(1, 1, 30)])
        renew(other, copy_of(one))
        self.assertEqual(other.do("put", 0, 1), (1, 2, 41, ("put", 0, 1)))
        renew(one, copy_of(other))
        self.assertEqual(one.now(), 41)
        # Of what was cut off, too.
        house = holding(2, [seal(0, 1, 50), (1, 1, 1, ("bye",))])
        cut(house, 0, 1)
        new = House(0, 2)
        renew(new, copy_of(house))
        self.assertEqual((new.now(), new.seal()), (50, (0, 2, 51, ("seal", ((0, 1, 1), (1, 1, 1))))))

    def test_a_deed_that_one_kept_and_the_other_cut_off_is_cut_off(self):
        deeds = [put(0, 1, 1), seal(0, 2, 2, (0, 1, 1)), put(1, 1, 3), seal(1, 2, 4, (0, 1, 2), (1, 1, 1)),
                 put(0, 3, 5)]
        for first, second in [(None, (0, 2)), ((0, 2), (1, 2)), (None, (1, 2)), ((1, 2), (0, 2)), ((0, 2), (0, 2))]:
            house, told = holding(2, deeds), holding(2, deeds)
            if first is not None:
                cut(house, *first)
            cut(told, *second)
            self.assertEqual(renew(house, copy_of(told)), [])
            farther = (1, 2) in (first, second)
            self.assertEqual(house.cut_off(), [(0, 1, 2), (1, 1, 2)] if farther else [(0, 1, 2)])
            self.assertEqual(house.deeds(), deeds[4:] if farther else deeds[2:])
            self.assertEqual(house.worths(), worths(deeds))

    def test_a_chain_of_copies(self):
        one, other = self.ahead_and_behind()
        renew(other, copy_of(one))
        third = House(1, 2)
        renew(third, copy_of(other))
        self.assertEqual(state(third), state(other))


class NothingIsLostTest(unittest.TestCase):
    DEEDS = [put(0, 1, 1), (1, 1, 1, ("add", 0, 5)), (0, 2, 2, ("back", 1, 1)), seal(1, 2, 3, (0, 1, 1), (1, 1, 1)),
             (2, 1, 4, ("back", 0, 1)), seal(0, 3, 5, (0, 1, 2), (1, 1, 2), (2, 1, 1)), (1, 3, 6, ("add", 1, 7)),
             (2, 2, 6, ("bye",)), (0, 4, 7, ("back", 1, 3)), (1, 4, 8, ("back", 0, 4))]

    def test_the_same_worths_in_any_order_cut_off_at_any_time(self):
        expected = worths(self.DEEDS)
        # The back of (0, 1) is void by a seal of another house, that of (1, 1) isn't.
        self.assertEqual(expected, [1, 7, 0, 0, 0, 0])
        for turn in range(len(self.DEEDS)):
            for step in (1, 3, 7, 9):
                order = [self.DEEDS[(turn + step * k) % 10] for k in range(10)]
                for when in range(10):
                    house = House(turn % 3, 3)
                    for at, deed in enumerate(order):
                        house.take([deed])
                        if at >= when and closing(house):
                            # The first of those that close, or the last.
                            cut(house, *closing(house)[-(when % 2)])
                    self.assertEqual(house.worths(), expected)
                    self.assertEqual(house.done(), [(0, 1, 4), (1, 1, 4), (2, 1, 2)])
                    left = [name for name in alive(self.DEEDS) if name in [deed[:2] for deed in house.deeds()]]
                    self.assertEqual(house.alive(), left)
                    self.assertEqual(house.byes(), [2])
                    self.assertEqual(house.take(order), [])
                    self.assertEqual(house.lacks(EVERYTHING)[0], (0, 5, TOP))


if __name__ == "__main__":
    unittest.main()
