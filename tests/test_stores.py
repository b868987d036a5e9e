"""Promise 5: what deeds come to."""

import copy
import itertools
import random
import unittest

from doneranges.errors import BadDeed
from doneranges.stores import alive, void, worths
from helpers import TOP, asked, refusal
from samples import GOOD, SORTS, WRONG
from slow import name, slow_alive, slow_void, slow_worths


def names(deeds):
    return [name(deed) for deed in deeds]


class Told(unittest.TestCase):
    def told(self, deeds, expected_worths, expected_alive, expected_void):
        """Check what deeds come to, in any order and told again."""
        orders = [list(order) for order in itertools.permutations(deeds)] if len(deeds) < 6 else [deeds, deeds[::-1]]
        for order in orders + [deeds + deeds[::-1], copy.deepcopy(deeds) + deeds]:
            with self.subTest(order=order):
                self.assertEqual(worths(order), expected_worths)
                self.assertEqual(alive(order), expected_alive)
                self.assertEqual(void(order), expected_void)
        for call in (worths, alive, void):
            asked(call, deeds)


class PutsAndAddsTest(Told):
    def test_no_deeds(self):
        self.told([], [0] * 6, [], [])

    def test_a_put_sets_and_an_add_adds(self):
        self.told([(0, 1, 1, ("put", 2, 7))], [0, 0, 7, 0, 0, 0], [(0, 1)], [])
        self.told([(0, 1, 1, ("add", 5, -7))], [0, 0, 0, 0, 0, -7], [(0, 1)], [])
        deeds = [(0, 1, 1, ("put", 2, 7)), (1, 1, 2, ("add", 2, 3)), (0, 2, 3, ("add", 2, -20))]
        self.told(deeds, [0, 0, -10, 0, 0, 0], names(deeds), [])
        deeds = [(0, 1, 1, ("add", 2, 7)), (1, 1, 2, ("put", 2, 3)), (0, 2, 3, ("add", 2, 1))]
        self.told(deeds, [0, 0, 4, 0, 0, 0], names(deeds), [])

    def test_each_key_for_itself(self):
        deeds = [(0, key + 1, key + 1, ("put", key, 10 + key)) for key in range(6)]
        self.told(deeds, [10, 11, 12, 13, 14, 15], names(deeds), [])

    def test_the_order_is_that_of_time_then_house_then_number(self):
        deeds = [(0, 2, 5, ("put", 0, 1)), (1, 1, 5, ("put", 0, 2)), (7, 1, 4, ("put", 0, 3))]
        self.told(deeds, [2, 0, 0, 0, 0, 0], [(7, 1), (0, 2), (1, 1)], [])
        deeds = [(3, 1, 5, ("put", 0, 1)), (3, 2, 5, ("put", 0, 2)), (2, 4, 5, ("put", 0, 3))]
        self.told(deeds, [2, 0, 0, 0, 0, 0], [(2, 4), (3, 1), (3, 2)], [])
        deeds = [(3, 1, 9, ("put", 0, 1)), (3, 2, 5, ("put", 0, 2))]
        self.told(deeds, [1, 0, 0, 0, 0, 0], [(3, 2), (3, 1)], [])

    def test_worths_may_pass_what_a_deed_may_bring(self):
        deeds = [(0, number, number, ("add", 0, -TOP)) for number in range(1, 5)]
        self.told(deeds, [-4 * TOP, 0, 0, 0, 0, 0], names(deeds), [])

    def test_what_else_is_done_changes_no_worth(self):
        self.told([(0, 1, 1, ("seal", ())), (1, 1, 1, ("bye",)), (0, 2, 2, ("back", 3, 3))],
                  [0] * 6, [(0, 1), (1, 1), (0, 2)], [])


class BacksTest(Told):
    PUT = (0, 1, 1, ("put", 0, 5))
    ADD = (1, 1, 2, ("add", 0, 2))

    def test_takes_back(self):
        self.told([self.PUT, self.ADD, (1, 2, 3, ("back", 0, 1))], [2, 0, 0, 0, 0, 0], [(1, 1), (1, 2)], [])
        self.told([self.PUT, self.ADD, (0, 2, 3, ("back", 1, 1))], [5, 0, 0, 0, 0, 0], [(0, 1), (0, 2)], [])

    def test_what_was_put_ahead_comes_forth(self):
        deeds = [self.PUT, (1, 1, 2, ("put", 0, 9)), (1, 2, 3, ("back", 1, 1))]
        self.told(deeds, [5, 0, 0, 0, 0, 0], [(0, 1), (1, 2)], [])

    def test_what_is_taken_back_twice_is_taken_back(self):
        deeds = [self.PUT, (1, 1, 2, ("back", 0, 1)), (0, 2, 3, ("back", 0, 1))]
        self.told(deeds, [0] * 6, [(1, 1), (0, 2)], [])
        # One of the two is taken back itself.
        deeds += [(2, 1, 4, ("back", 1, 1))]
        self.told(deeds, [0] * 6, [(0, 2), (2, 1)], [])
        deeds += [(2, 2, 5, ("back", 0, 2))]
        self.told(deeds, [5, 0, 0, 0, 0, 0], [(0, 1), (2, 1), (2, 2)], [])

    def test_a_back_of_what_is_not_among_them(self):
        self.told([self.PUT, (1, 1, 2, ("back", 0, 2))], [5, 0, 0, 0, 0, 0], [(0, 1), (1, 1)], [])
        self.told([self.PUT, (1, 1, 2, ("back", 1, 9))], [5, 0, 0, 0, 0, 0], [(0, 1), (1, 1)], [])

    def test_backs_of_backs(self):
        deeds = [self.PUT, (1, 1, 2, ("back", 0, 1))]
        self.told(deeds, [0] * 6, [(1, 1)], [])
        deeds += [(2, 1, 3, ("back", 1, 1))]
        self.told(deeds, [5, 0, 0, 0, 0, 0], [(0, 1), (2, 1)], [])
        deeds += [(1, 2, 4, ("back", 2, 1))]
        self.told(deeds, [0] * 6, [(1, 1), (1, 2)], [])
        deeds += [(2, 2, 5, ("back", 1, 2))]
        self.told(deeds, [5, 0, 0, 0, 0, 0], [(0, 1), (2, 1), (2, 2)], [])

    def test_a_long_row_of_backs(self):
        deeds = [self.PUT] + [(0, number, number, ("back", 0, number - 1)) for number in range(2, 3001)]
        chance = random.Random(1)
        chance.shuffle(deeds)
        self.assertEqual(worths(deeds), [0] * 6)
        self.assertEqual(alive(deeds), [(0, number) for number in range(2, 3001, 2)])
        deeds += [(0, 3001, 3001, ("back", 0, 3000))]
        self.assertEqual(worths(deeds), [5, 0, 0, 0, 0, 0])
        self.assertEqual(void(deeds), [])

    def test_seals_and_byes_are_never_taken_back(self):
        seal = (1, 1, 2, ("seal", ((0, 1, 1),)))
        bye = (1, 2, 3, ("bye",))
        deeds = [self.PUT, seal, bye, (0, 2, 4, ("back", 1, 1)), (0, 3, 5, ("back", 1, 2))]
        self.told(deeds, [5, 0, 0, 0, 0, 0], names(deeds), [])
        # The seal that a back names seals as ahead.
        deeds = [self.PUT, seal, (0, 2, 3, ("back", 1, 1)), (0, 3, 4, ("back", 0, 1))]
        self.told(deeds, [5, 0, 0, 0, 0, 0], names(deeds), [(0, 3)])

    def test_a_back_of_a_seal_can_be_void_and_taken_back(self):
        seal = (1, 1, 2, ("seal", ()))
        deeds = [seal, (0, 1, 3, ("back", 1, 1)), (0, 2, 4, ("back", 0, 1))]
        self.told(deeds, [0] * 6, [(1, 1), (0, 2)], [])
        deeds = [seal, (1, 2, 3, ("seal", ((1, 1, 1),))), (0, 1, 4, ("back", 1, 1))]
        self.told(deeds, [0] * 6, names(deeds), [(0, 1)])


class VoidTest(Told):
    PUT = (1, 1, 4, ("put", 0, 5))

    def test_ahead_of_what_it_takes_back(self):
        self.told([(0, 1, 3, ("back", 1, 1)), self.PUT], [5, 0, 0, 0, 0, 0], [(0, 1), (1, 1)], [(0, 1)])

    def test_stamps_equal_in_time(self):
        # By house: 0 is ahead of 1, 2 behind.
        self.told([(0, 1, 4, ("back", 1, 1)), self.PUT], [5, 0, 0, 0, 0, 0], [(0, 1), (1, 1)], [(0, 1)])
        self.told([(2, 1, 4, ("back", 1, 1)), self.PUT], [0] * 6, [(2, 1)], [])
        # By number.
        self.told([self.PUT, (1, 2, 4, ("back", 1, 1))], [0] * 6, [(1, 2)], [])
        self.told([(1, 2, 4, ("put", 0, 5)), (1, 1, 4, ("back", 1, 2))], [5, 0, 0, 0, 0, 0],
                  [(1, 1), (1, 2)], [(1, 1)])

    def test_a_back_of_itself(self):
        self.told([(1, 1, 4, ("back", 1, 1))], [0] * 6, [(1, 1)], [(1, 1)])
        deeds = [(1, 1, 4, ("back", 1, 1)), (1, 2, 5, ("back", 1, 1))]
        self.told(deeds, [0] * 6, [(1, 2)], [(1, 1)])

    def test_backs_of_one_another(self):
        # The earlier one is void; the later one takes it back.
        deeds = [(0, 1, 1, ("back", 0, 2)), (0, 2, 2, ("back", 0, 1))]
        self.told(deeds, [0] * 6, [(0, 2)], [(0, 1)])

    def test_a_void_back_takes_no_back_back(self):
        deeds = [self.PUT, (0, 1, 5, ("back", 0, 2)), (0, 2, 6, ("back", 1, 1))]
        self.told(deeds, [0] * 6, [(0, 1), (0, 2)], [(0, 1)])

    def test_a_void_back_that_is_taken_back_is_told_as_void(self):
        deeds = [(0, 1, 3, ("back", 1, 1)), self.PUT, (2, 1, 5, ("back", 0, 1))]
        self.told(deeds, [5, 0, 0, 0, 0, 0], [(1, 1), (2, 1)], [(0, 1)])

    def test_by_their_stamps(self):
        deeds = [(3, 1, 1, ("back", 3, 1)), (2, 2, 2, ("back", 2, 2)), (0, 4, 4, ("back", 0, 4)),
                 (2, 1, 4, ("back", 2, 1))]
        self.told(deeds, [0] * 6, names(deeds), names(deeds))


class SealedTest(Told):
    PUT = (1, 1, 1, ("put", 0, 5))

    def test_sealed_ahead_of_the_back(self):
        for house in (0, 1, 2, 3):
            seal = (house, 2, 3, ("seal", ((1, 1, 1),)))
            back = (2, 5, 6, ("back", 1, 1))
            self.told([self.PUT, seal, back], [5, 0, 0, 0, 0, 0], names([self.PUT, seal, back]), [(2, 5)])

    def test_sealed_behind_the_back(self):
        back, seal = (2, 1, 3, ("back", 1, 1)), (1, 2, 4, ("seal", ((1, 1, 1),)))
        self.told([self.PUT, back, seal], [0] * 6, [(2, 1), (1, 2)], [])

    def test_stamps_equal_in_time(self):
        back = (2, 2, 3, ("back", 1, 1))
        ahead, behind = (1, 2, 3, ("seal", ((1, 1, 1),))), (3, 1, 3, ("seal", ((1, 1, 1),)))
        self.told([self.PUT, ahead, back], [5, 0, 0, 0, 0, 0], [(1, 1), (1, 2), (2, 2)], [(2, 2)])
        self.told([self.PUT, back, behind], [0] * 6, [(2, 2), (3, 1)], [])
        own_ahead, own_behind = (2, 1, 3, ("seal", ((1, 1, 1),))), (2, 3, 3, ("seal", ((1, 1, 1),)))
        self.told([self.PUT, own_ahead, back], [5, 0, 0, 0, 0, 0], [(1, 1), (2, 1), (2, 2)], [(2, 2)])
        self.told([self.PUT, back, own_behind], [0] * 6, [(2, 2), (2, 3)], [])

    def test_a_seal_that_has_others(self):
        back = (2, 1, 5, ("back", 1, 2))
        put = (1, 2, 2, ("put", 0, 5))
        for rows, is_void in (((), False), (((1, 1, 1), (1, 3, 9)), False), (((0, 1, 9), (2, 1, 9)), False),
                              (((0, 1, 9), (1, 1, 3)), True), (((1, 1, 2),), True), (((1, 2, 3),), True)):
            seal = (0, 1, 4, ("seal", rows))
            if is_void:
                self.told([put, seal, back], [5, 0, 0, 0, 0, 0], [(1, 2), (0, 1), (2, 1)], [(2, 1)])
            else:
                self.told([put, seal, back], [0] * 6, [(0, 1), (2, 1)], [])

    def test_any_of_several_seals(self):
        seals = [(0, 1, 2, ("seal", ())), (0, 2, 3, ("seal", ((1, 1, 1),))), (0, 3, 4, ("seal", ()))]
        self.told([self.PUT, *seals, (2, 1, 5, ("back", 1, 1))], [5, 0, 0, 0, 0, 0],
                  [(1, 1), (0, 1), (0, 2), (0, 3), (2, 1)], [(2, 1)])

    def test_a_back_of_what_is_sealed_but_not_among_them(self):
        self.told([(0, 1, 2, ("seal", ((1, 1, 1),))), (2, 1, 5, ("back", 1, 1))], [0] * 6, [(0, 1), (2, 1)], [(2, 1)])

    def test_a_back_that_is_sealed_stays(self):
        deeds = [self.PUT, (2, 1, 2, ("back", 1, 1)), (0, 1, 3, ("seal", ((1, 1, 1), (2, 1, 1)))),
                 (1, 2, 4, ("back", 2, 1))]
        self.told(deeds, [0] * 6, [(2, 1), (0, 1), (1, 2)], [(1, 2)])

    def test_a_seal_of_a_later_deed(self):
        deeds = [(0, 1, 1, ("seal", ((1, 5, 5),))), (1, 5, 6, ("put", 1, 1)), (2, 1, 7, ("back", 1, 5))]
        self.told(deeds, [0, 1, 0, 0, 0, 0], names(deeds), [(2, 1)])


class AgainstTheWordsTest(unittest.TestCase):
    """Deeds of few houses, few numbers and few times, so that backs and seals hit, against the slow way."""

    def some_what(self, chance):
        sort = chance.randrange(10)
        if sort < 3:
            return (chance.choice(["put", "add"]), chance.randrange(2), chance.randrange(-9, 10))
        if sort < 8:
            return ("back", chance.randrange(3), chance.randrange(1, 6))
        if sort == 8:
            first = chance.randrange(1, 5)
            return ("seal", ((chance.randrange(3), first, first + chance.randrange(3)),))
        return ("bye",)

    def test_many(self):
        chance = random.Random(5)
        seen = [0, 0]
        for turn in range(1500):
            everything = [(house, number) for house in range(3) for number in range(1, 6)]
            chosen = chance.sample(everything, chance.randrange(2, 15))
            deeds = [(house, number, number + chance.randrange(5), self.some_what(chance)) for house, number in chosen]
            with self.subTest(deeds=deeds):
                expected = [slow_worths(deeds), slow_alive(deeds), slow_void(deeds)]
                self.assertEqual([asked(call, deeds) for call in (worths, alive, void)], expected)
                chance.shuffle(deeds)
                again = deeds + deeds[:turn % 4]
                self.assertEqual([asked(call, again) for call in (worths, alive, void)], expected)
                seen[0] += len(expected[2]) > 0
                seen[1] += len(expected[1]) < len(deeds)
        self.assertGreater(min(seen), 400)


class BadDeedTest(unittest.TestCase):
    def test_each_way_at_each_place(self):
        for wrong in WRONG:
            for call in (worths, alive, void):
                with self.subTest(call.__name__, wrong=wrong):
                    self.assertEqual(refusal(BadDeed, call, [wrong]).at, 0)
                    self.assertEqual(refusal(BadDeed, call, SORTS[:3] + [wrong, ()] + SORTS).at, 3)
                    self.assertEqual(refusal(BadDeed, call, SORTS + [wrong]).at, 6)

    def test_edges_are_not_refused(self):
        for deed in GOOD:
            with self.subTest(deed=deed):
                self.assertEqual(asked(alive, [deed]), [(deed[0], deed[1])])
                self.assertEqual(asked(worths, [deed]), slow_worths([deed]))
                self.assertEqual(asked(void, [deed]), slow_void([deed]))


if __name__ == "__main__":
    unittest.main()
