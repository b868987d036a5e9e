"""Promises 6, 7 and 8: what a house does, takes and tells."""

import itertools
import unittest

from doneranges.cutting import copy as copy_of
from doneranges.cutting import cut, renew
from doneranges.errors import BadDeed, BadStretches, NoDeed, NoHouse
from doneranges.houses import House
from doneranges.stores import alive, worths
from helpers import TOP, apart, refusal
from housing import EVERYTHING, houses, refused, send, send_all, state, unchanged
from samples import WRONG


def told_in_lists(house):
    """Each call that tells a list, with what it is handed."""
    return [(house.done,), (house.deeds,), (house.cut_off,), (house.worths,), (house.alive,), (house.byes,),
            (house.lacks, EVERYTHING), (house.gives, EVERYTHING), (house.gave_up, EVERYTHING)]


def after_a_cut():
    """A house of two, of which (0, 1), (1, 1), (1, 2) and (0, 2), a seal, were cut off, and two deeds weren't."""
    one, other = houses(2)
    one.do("put", 0, 5)
    send(one, other)
    other.do("add", 0, 2)
    other.do("put", 1, 3)
    send(other, one)
    one.seal()
    send(one, other)
    other.do("add", 1, 1)
    other.do("add", 1, 1)
    send(other, one)
    cut(one, 0, 2)
    return one, other


class BeginTest(unittest.TestCase):
    def test_without_deeds_at_time_0(self):
        for many in range(2, 7):
            for me in range(many):
                self.assertEqual(state(House(me, many)), {
                    "done": [], "deeds": [], "cut_off": [], "worths": [0] * 6, "alive": [], "byes": [], "now": 0,
                    "number": me, "count": many, "lacks": EVERYTHING, "gives": [], "gave_up": [], "closing": [],
                    "copy": copy_of(House(0, 2)), "why_not": []})

    def test_no_house(self):
        for many in (-1, 0, 1, 7, 8, TOP):
            for me in (-1, 0, 1, 6, 7):
                refusal(NoHouse, House, me, many)
        for many in range(2, 7):
            for me in (-TOP, -1, many, many + 1, 7, 8, TOP):
                refusal(NoHouse, House, me, many)

    def test_houses_share_nothing(self):
        one, other = House(0, 2), House(0, 2)
        one.do("put", 0, 1)
        one.seal()
        one.bye()
        self.assertEqual(state(other), state(House(0, 2)))


class DoTest(unittest.TestCase):
    def test_each_sort(self):
        house = House(1, 3)
        self.assertEqual(house.do("put", 5, -TOP), (1, 1, 1, ("put", 5, -TOP)))
        self.assertEqual(house.do("add", 0, TOP), (1, 2, 2, ("add", 0, TOP)))
        self.assertEqual(house.back(1, 1), (1, 3, 3, ("back", 1, 1)))
        self.assertEqual(house.seal(), (1, 4, 4, ("seal", ((1, 1, 3),))))
        self.assertEqual(house.bye(), (1, 5, 5, ("bye",)))
        self.assertEqual(house.deeds(), [
            (1, 1, 1, ("put", 5, -TOP)), (1, 2, 2, ("add", 0, TOP)), (1, 3, 3, ("back", 1, 1)),
            (1, 4, 4, ("seal", ((1, 1, 3),))), (1, 5, 5, ("bye",))])
        self.assertEqual(house.done(), [(1, 1, 5)])
        self.assertEqual(house.worths(), [TOP, 0, 0, 0, 0, 0])
        self.assertEqual(house.alive(), [(1, 2), (1, 3), (1, 4), (1, 5)])
        self.assertEqual((house.byes(), house.now()), ([1], 5))

    def test_time_behind_the_greatest_that_was_met(self):
        house = House(0, 2)
        house.take([(1, 1, 40, ("put", 0, 1)), (1, 2, 30, ("put", 0, 2))])
        self.assertEqual(house.now(), 40)
        self.assertEqual(house.do("put", 0, 3), (0, 1, 41, ("put", 0, 3)))
        self.assertEqual(house.bye(), (0, 2, 42, ("bye",)))
        house.take([(1, 3, 35, ("put", 0, 2))])
        self.assertEqual(house.now(), 42)

    def test_number_behind_its_own_last_one(self):
        house = House(1, 2)
        house.take([(1, 7, 9, ("put", 0, 1)), (0, 30, 50, ("put", 0, 1)), (1, 3, 4, ("put", 0, 1))])
        self.assertEqual(house.do("add", 0, 3), (1, 8, 51, ("add", 0, 3)))
        house.take([(1, 1, 1, ("put", 0, 1))])
        self.assertEqual(house.seal(), (1, 9, 52, ("seal", ((0, 30, 30), (1, 1, 1), (1, 3, 3), (1, 7, 8)))))

    def test_number_and_time_behind_what_was_cut_off(self):
        one, other = after_a_cut()
        self.assertEqual(one.do("put", 0, 1), (0, 3, 7, ("put", 0, 1)))
        send(one, other)
        cut(other, 0, 2)
        self.assertEqual(other.bye(), (1, 5, 8, ("bye",)))

    def test_a_seal_has_all_that_the_house_holds(self):
        self.assertEqual(House(0, 2).seal(), (0, 1, 1, ("seal", ())))
        house = House(0, 3)
        house.seal()
        house.take([(2, 3, 3, ("bye",)), (1, 1, 9, ("back", 0, 9)), (2, 2, 2, ("put", 0, 1))])
        self.assertEqual(house.seal()[3], ("seal", ((0, 1, 1), (1, 1, 1), (2, 2, 3))))
        self.assertEqual(house.seal()[3], ("seal", ((0, 1, 2), (1, 1, 1), (2, 2, 3))))

    def test_a_seal_has_what_was_cut_off(self):
        one, _ = after_a_cut()
        self.assertEqual(one.seal(), (0, 3, 7, ("seal", ((0, 1, 2), (1, 1, 4)))))

    def test_bad_deed(self):
        house = House(0, 2)
        house.do("put", 0, 1)
        wrong = [("back", 0, 1), ("seal", 0, 1), ("bye", 0, 1), ("", 0, 1), ("Put", 0, 1), ("putadd", 0, 1),
                 ("put", -1, 0), ("put", 6, 0), ("add", 6, 0), ("add", -1, 0), ("put", TOP, 0),
                 ("put", 0, TOP + 1), ("put", 0, -TOP - 1), ("add", 5, TOP + 1), ("add", 5, -TOP - 1)]
        for given in wrong:
            self.assertEqual(refused(BadDeed, house, house.do, *given).at, 0)
        house.bye()
        # What is handed in is refused ahead of what isn't to be done any more.
        for given in wrong:
            self.assertEqual(refused(BadDeed, house, house.do, *given).at, 0)

    def test_behind_a_bye(self):
        house = House(0, 2)
        house.do("put", 0, 1)
        house.take([(1, 1, 1, ("put", 0, 1)), (1, 2, 2, ("bye",))])
        # The bye of another house bars nothing.
        house.do("add", 0, 1)
        house.bye()
        refused(NoDeed, house, house.do, "put", 0, 1)
        refused(NoDeed, house, house.do, "add", 5, TOP)
        refused(NoDeed, house, house.back, 0, 1)
        refused(NoDeed, house, house.back, 7, 1)
        refused(NoDeed, house, house.seal)
        refused(NoDeed, house, house.bye)

    def test_behind_a_bye_that_was_taken_renewed_or_cut_off(self):
        taker = House(0, 2)
        taker.take([(0, 5, 6, ("bye",))])
        one, other = houses(2)
        other.bye()
        send(other, one)
        one.bye()
        one_copied = House(0, 2)
        renew(one_copied, copy_of(one))
        two, third = houses(2)
        third.do("put", 0, 1)
        third.bye()
        send(third, two)
        two.seal()
        cut(two, 0, 1)
        copied = House(1, 2)
        renew(copied, copy_of(two))
        self.assertEqual(copied.cut_off(), [(0, 1, 1), (1, 1, 2)])
        for house in (taker, one_copied, copied):
            refused(NoDeed, house, house.do, "put", 0, 1)
            refused(NoDeed, house, house.back, 1, 1)
            refused(NoDeed, house, house.seal)
            refused(NoDeed, house, house.bye)
        # Not so the house that holds the bye of the other.
        self.assertEqual(two.do("put", 0, 1), (0, 2, 4, ("put", 0, 1)))


class BackTest(unittest.TestCase):
    def test_of_its_own_and_of_others(self):
        house = House(0, 2)
        house.do("put", 0, 4)
        house.take([(1, 1, 1, ("add", 0, 2))])
        self.assertEqual(house.worths(), [6, 0, 0, 0, 0, 0])
        self.assertEqual(house.back(1, 1), (0, 2, 2, ("back", 1, 1)))
        self.assertEqual(house.worths(), [4, 0, 0, 0, 0, 0])
        self.assertEqual(house.back(0, 2), (0, 3, 3, ("back", 0, 2)))
        self.assertEqual(house.worths(), [6, 0, 0, 0, 0, 0])
        # What was taken back may be again.
        self.assertEqual(house.back(0, 2), (0, 4, 4, ("back", 0, 2)))
        self.assertEqual(house.back(0, 1), (0, 5, 5, ("back", 0, 1)))
        self.assertEqual(house.worths(), [2, 0, 0, 0, 0, 0])
        self.assertEqual(house.alive(), [(1, 1), (0, 3), (0, 4), (0, 5)])

    def test_not_held(self):
        house = House(0, 2)
        house.do("put", 0, 4)
        house.take([(1, 4, 4, ("put", 0, 1))])
        # Its own next one among them.
        for name in [(0, 2), (0, 0), (0, -1), (1, 3), (1, 5), (1, 1), (2, 1), (-1, 1), (8, 1), (0, TOP + 1)]:
            refused(NoDeed, house, house.back, *name)

    def test_a_seal_or_a_bye(self):
        house = House(0, 2)
        house.take([(1, 1, 1, ("seal", ())), (1, 2, 2, ("bye",))])
        house.seal()
        for name in [(1, 1), (1, 2), (0, 1)]:
            refused(NoDeed, house, house.back, *name)

    def test_sealed(self):
        house = House(0, 3)
        house.do("put", 0, 4)
        house.back(0, 1)
        house.do("put", 0, 5)
        # Sealed by another house, that holds the first two.
        house.take([(1, 1, 3, ("seal", ((0, 1, 2),)))])
        refused(NoDeed, house, house.back, 0, 1)
        refused(NoDeed, house, house.back, 0, 2)
        house.back(0, 3)
        house.do("put", 0, 6)
        house.seal()
        for number in range(1, 6):
            refused(NoDeed, house, house.back, 0, number)
        house.do("put", 0, 7)
        self.assertEqual(house.back(0, 7), (0, 8, 8, ("back", 0, 7)))

    def test_of_two_seals_any(self):
        house = House(0, 2)
        house.do("put", 0, 4)
        house.seal()
        house.take([(1, 1, 1, ("seal", ())), (1, 2, 9, ("seal", ((1, 1, 1),)))])
        refused(NoDeed, house, house.back, 0, 1)

    def test_cut_off(self):
        one, _ = after_a_cut()
        for name in [(0, 1), (0, 2), (1, 1), (1, 2)]:
            refused(NoDeed, one, one.back, *name)
        one.back(1, 3)
        self.assertEqual(one.worths(), [7, 4, 0, 0, 0, 0])


class TakeTest(unittest.TestCase):
    DEEDS = [(0, 1, 2, ("put", 0, 1)), (1, 1, 2, ("add", 0, 2)), (0, 2, 3, ("back", 1, 1)),
             (1, 2, 4, ("back", 0, 2)), (1, 3, 5, ("seal", ((0, 1, 2), (1, 1, 2)))), (1, 4, 6, ("bye",))]

    def test_tells_the_names_of_those_that_were_not_held(self):
        house = House(0, 2)
        self.assertEqual(house.take([]), [])
        self.assertEqual(house.take([self.DEEDS[3], self.DEEDS[0]]), [(0, 1), (1, 2)])
        self.assertEqual(house.take([self.DEEDS[3], self.DEEDS[0]]), [])
        self.assertEqual(house.take(self.DEEDS[::-1]), [(1, 1), (0, 2), (1, 3), (1, 4)])
        self.assertEqual(house.take(self.DEEDS), [])

    def test_any_order_gaps_and_doubles(self):
        for order in itertools.permutations(self.DEEDS):
            house = House(1, 2)
            for at, deed in enumerate(order):
                # A letter of two, the other one held by then.
                letter = [deed, order[at // 2]]
                self.assertEqual(house.take(letter), [] if at and deed == order[at // 2] else [deed[:2]])
                self.assertEqual(house.deeds(), sorted(order[:at + 1], key=self.DEEDS.index))
                self.assertEqual(house.worths(), worths(list(order[:at + 1])))
                self.assertEqual(house.alive(), alive(list(order[:at + 1])))
                self.assertEqual(house.now(), max(one[2] for one in order[:at + 1]))
            self.assertEqual((house.done(), house.worths(), house.byes()), ([(0, 1, 2), (1, 1, 4)], [3, 0, 0, 0, 0, 0],
                                                                           [1]))

    def test_one_deed_twice_in_a_letter(self):
        house = House(1, 2)
        self.assertEqual(house.take([self.DEEDS[1], self.DEEDS[0], self.DEEDS[1]]), [(0, 1), (1, 1)])
        self.assertEqual(house.worths(), [3, 0, 0, 0, 0, 0])

    def test_its_own(self):
        house, again = House(0, 2), House(0, 2)
        house.do("put", 0, 1)
        house.do("put", 0, 2)
        deeds = house.deeds()
        self.assertEqual(house.take(deeds), [])
        self.assertEqual(again.take(deeds[::-1]), [(0, 1), (0, 2)])
        self.assertEqual(again.do("put", 0, 3), (0, 3, 3, ("put", 0, 3)))

    def test_what_was_cut_off_is_held(self):
        one, other = after_a_cut()
        before = state(one)
        self.assertEqual(send(other, one), [])
        self.assertEqual(state(one), before)

    def test_a_seal_that_comes_late_makes_a_back_void(self):
        house = House(2, 3)
        put, back = (0, 1, 1, ("put", 0, 9)), (2, 1, 5, ("back", 0, 1))
        house.take([put, back])
        self.assertEqual((house.worths(), house.alive()), ([0] * 6, [(2, 1)]))
        house.take([(1, 1, 4, ("seal", ((0, 1, 1),)))])
        self.assertEqual((house.worths(), house.alive()), ([9, 0, 0, 0, 0, 0], [(0, 1), (1, 1), (2, 1)]))

    def test_bad_deed(self):
        house = House(0, 2)
        house.do("put", 0, 1)
        for wrong in WRONG:
            self.assertEqual(refused(BadDeed, house, house.take, [wrong]).at, 0)
            self.assertEqual(refused(BadDeed, house, house.take, self.DEEDS[:2] + [wrong, ()]).at, 2)
            self.assertEqual(refused(BadDeed, house, house.take, self.DEEDS + [wrong]).at, 6)

    def test_a_house_beyond_how_many_there_are(self):
        for many in range(2, 7):
            house = House(0, many)
            for maker in range(8):
                deed = (maker, 1, 1, ("put", 0, 1))
                if maker >= many:
                    self.assertEqual(refused(BadDeed, house, house.take, [deed]).at, 0)
                    letter = [(0, 1, 1, ("bye",)), (0, 1, 1, ("bye",)), deed, ()]
                    self.assertEqual(refused(BadDeed, house, house.take, letter).at, 2)
                    self.assertEqual(refused(BadDeed, house, house.take, [(), deed]).at, 0)
                else:
                    self.assertEqual(House(0, many).take([deed]), [(maker, 1)])

    def test_a_letter_that_is_changed_behind_changes_nothing(self):
        house = House(0, 2)
        letter = list(self.DEEDS)
        house.take(letter)
        before = state(house)
        letter.clear()
        self.assertEqual(state(house), before)


class TellTest(unittest.TestCase):
    def test_number_and_count(self):
        for many in range(2, 7):
            for me in range(many):
                house = House(me, many)
                self.assertEqual((unchanged(house, house.number), unchanged(house, house.count)), (me, many))

    def test_after_a_cut(self):
        one, other = after_a_cut()
        adds = [(1, 3, 5, ("add", 1, 1)), (1, 4, 6, ("add", 1, 1))]
        self.assertEqual(unchanged(one, one.done), [(0, 1, 2), (1, 1, 4)])
        self.assertEqual(unchanged(one, one.deeds), adds)
        self.assertEqual(unchanged(one, one.cut_off), [(0, 1, 2), (1, 1, 2)])
        self.assertEqual(unchanged(one, one.worths), [7, 5, 0, 0, 0, 0])
        self.assertEqual(unchanged(one, one.worths), other.worths())
        self.assertEqual(unchanged(one, one.alive), [(1, 3), (1, 4)])
        self.assertEqual(unchanged(one, one.byes), [])
        self.assertEqual(unchanged(one, one.now), 6)

    def test_lacks(self):
        one, _ = after_a_cut()
        self.assertEqual(unchanged(one, one.lacks, []), [])
        self.assertEqual(unchanged(one, one.lacks, [(1, 1, 3), (0, 2, 2)]), [])
        self.assertEqual(unchanged(one, one.lacks, [(1, 4, 6), (1, 1, 5), (0, 1, 4)]), [(0, 3, 4), (1, 5, 6)])
        self.assertEqual(unchanged(one, one.lacks, [(7, 3, 3), (2, 1, TOP)]), [(2, 1, TOP), (7, 3, 3)])

    def test_gives_and_gave_up(self):
        one, other = after_a_cut()
        adds = [(1, 3, 5, ("add", 1, 1)), (1, 4, 6, ("add", 1, 1))]
        self.assertEqual(unchanged(one, one.gives, []), [])
        self.assertEqual(unchanged(one, one.gave_up, []), [])
        self.assertEqual(unchanged(one, one.gives, [(1, 1, 3), (0, 1, 9)]), adds[:1])
        self.assertEqual(unchanged(one, one.gave_up, [(1, 2, 3), (1, 2, 2), (0, 2, 9)]), [(0, 2, 2), (1, 2, 2)])
        self.assertEqual(unchanged(one, one.gives, [(1, 4, 9), (1, 3, 4), (5, 1, 9)]), adds)
        self.assertEqual(unchanged(one, one.gave_up, EVERYTHING), [(0, 1, 2), (1, 1, 2)])
        self.assertEqual(unchanged(other, other.gives, [(1, 1, 1), (0, 1, 1)]),
                         [(0, 1, 1, ("put", 0, 5)), (1, 1, 2, ("add", 0, 2))])
        self.assertEqual(unchanged(other, other.gave_up, EVERYTHING), [])

    def test_gives_by_stamps(self):
        house = House(0, 3)
        deeds = [(2, 1, 1, ("bye",)), (0, 2, 2, ("put", 0, 1)), (1, 1, 2, ("put", 0, 1)), (0, 1, 7, ("put", 0, 1))]
        house.take(deeds[::-1])
        self.assertEqual(unchanged(house, house.gives, [(2, 1, 1), (1, 1, 1), (0, 1, 2)]), deeds)
        self.assertEqual(unchanged(house, house.deeds), deeds)

    def test_byes_rising(self):
        house = House(1, 6)
        self.assertEqual(house.byes(), [])
        house.take([(5, 3, 3, ("bye",)), (0, 2, 9, ("bye",)), (4, 1, 1, ("seal", ()))])
        self.assertEqual(unchanged(house, house.byes), [0, 5])
        house.bye()
        self.assertEqual(unchanged(house, house.byes), [0, 1, 5])

    def test_byes_that_were_cut_off(self):
        one, other = houses(2)
        other.bye()
        send(other, one)
        one.seal()
        cut(one, 0, 1)
        self.assertEqual((one.byes(), one.deeds()), ([1], []))

    def test_bad_stretches(self):
        one, _ = after_a_cut()
        for house in (one, House(3, 4)):
            for call in (house.lacks, house.gives, house.gave_up):
                for wrong in [(), (1, 2), (-1, 1, 1), (8, 1, 1), (0, 0, 1), (0, 2, 1), (0, 1, TOP + 1), (0, 1, 1, 1)]:
                    self.assertEqual(refused(BadStretches, house, call, [wrong]).at, 0)
                    self.assertEqual(refused(BadStretches, house, call, [(0, 1, 1), (0, 1, 1), wrong, ()]).at, 2)
                self.assertEqual(refused(BadStretches, house, call, apart(1, 2, count=201)).at, 200)
                unchanged(house, call, apart(1, 2, count=200))

    def test_more_than_two_hundred_rows_are_held(self):
        house = House(0, 2)
        house.take([(1, number, number, ("add", 0, 1)) for number in range(1, 800, 2)])
        self.assertEqual(unchanged(house, house.done), apart(1, 2, count=400))
        self.assertEqual(unchanged(house, house.lacks, [(1, 1, 799)]), apart(1, 2, 2, 399))
        self.assertEqual(len(unchanged(house, house.gives, [(1, 1, 799)])), 400)
        self.assertEqual(house.worths(), [400, 0, 0, 0, 0, 0])

    def test_what_is_told_may_be_changed(self):
        one, other = after_a_cut()
        one.bye()
        for house in (one, other):
            before = state(house)
            for call, *given in told_in_lists(house):
                answer = call(*given)
                answer.append("changed")
                answer.reverse()
                self.assertIsNot(call(*given), answer)
                self.assertEqual(state(house), before)
                answer.clear()
                self.assertEqual(state(house), before)

    def test_letters_to_all(self):
        four = houses(4)
        for house in four:
            house.do("put", house.number(), house.number() + 1)
        send_all(four)
        send_all(four)
        for house in four:
            self.assertEqual(house.done(), [(maker, 1, 1) for maker in range(4)])
            self.assertEqual(house.worths(), [1, 2, 3, 4, 0, 0])


if __name__ == "__main__":
    unittest.main()
