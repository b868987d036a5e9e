"""Promise 4: deeds, their order and their set."""

import copy
import itertools
import random
import unittest

from doneranges.deeds import ordered, stretches
from doneranges.errors import BadDeed
from helpers import TOP, apart, asked, refusal, told
from samples import GOOD, SORTS, WRONG


def some_deeds(chance, many):
    """Deeds of every sort, of all houses, some of one time."""
    names = chance.sample([(house, number) for house in range(8) for number in range(1, 9)], many)
    whats = [deed[3] for deed in SORTS]
    return [(house, number, number + chance.randrange(6), chance.choice(whats)) for house, number in names]


class OrderedTest(unittest.TestCase):
    def test_no_deeds(self):
        self.assertEqual(asked(ordered, []), [])

    def test_one_deed(self):
        for deed in GOOD:
            self.assertEqual(asked(ordered, [deed]), [deed])

    def test_every_sort_in_any_order(self):
        for deeds in itertools.permutations(SORTS):
            self.assertEqual(ordered(list(deeds)), SORTS)
        self.assertEqual(asked(ordered, SORTS[::-1]), SORTS)

    def test_by_time_then_house_then_number(self):
        deeds = [(0, 3, 3, ("bye",)), (1, 1, 4, ("bye",)), (1, 2, 4, ("bye",)), (2, 1, 4, ("bye",)),
                 (0, 1, 5, ("bye",)), (0, 2, TOP, ("bye",)), (7, TOP, TOP, ("bye",))]
        for turn in range(len(deeds)):
            self.assertEqual(asked(ordered, deeds[turn:] + deeds[:turn][::-1]), deeds)

    def test_told_again(self):
        self.assertEqual(asked(ordered, SORTS + SORTS[::-1] + SORTS[2:4]), SORTS)
        # Equal, but not the same object.
        self.assertEqual(asked(ordered, SORTS + copy.deepcopy(SORTS)), SORTS)

    def test_deeds_of_one_number_or_one_house_are_several(self):
        deeds = [(0, 1, 1, ("put", 1, 1)), (1, 1, 1, ("put", 1, 1)), (1, 2, 2, ("put", 1, 1))]
        self.assertEqual(asked(ordered, deeds), deeds)

    def test_many(self):
        chance = random.Random(4)
        for many in range(0, 65, 4):
            deeds = some_deeds(chance, many)
            expected = sorted(deeds, key=lambda deed: (deed[2], deed[0], deed[1]))
            self.assertEqual(asked(ordered, deeds + deeds[:many // 2]), expected)


class StretchesTest(unittest.TestCase):
    def test_no_deeds(self):
        self.assertEqual(asked(stretches, []), [])

    def test_every_sort(self):
        for deeds in itertools.permutations(SORTS):
            self.assertEqual(stretches(list(deeds)), [(0, 1, 2), (0, 4, 4), (2, 1, 2), (7, 1, 1)])
        self.assertEqual(asked(stretches, SORTS + SORTS), [(0, 1, 2), (0, 4, 4), (2, 1, 2), (7, 1, 1)])

    def test_one_deed(self):
        for deed in GOOD:
            self.assertEqual(asked(stretches, [deed]), [(deed[0], deed[1], deed[1])])

    def test_many(self):
        chance = random.Random(5)
        for many in range(0, 65, 4):
            deeds = some_deeds(chance, many)
            names = {(house, number) for house, number, _, _ in deeds}
            self.assertEqual(asked(stretches, deeds + deeds[::-1]), told(names))

    def test_more_than_two_hundred_deeds(self):
        deeds = [(3, number, number, ("bye",)) for number in range(500, 0, -1)]
        self.assertEqual(asked(stretches, deeds), [(3, 1, 500)])
        self.assertEqual(asked(stretches, deeds[::2]), apart(3, 2, 2, 250))


class BadDeedTest(unittest.TestCase):
    def refused_at(self, deeds, at):
        for call in (ordered, stretches):
            with self.subTest(call.__name__, deeds=deeds):
                self.assertEqual(refusal(BadDeed, call, deeds).at, at)

    def test_each_way_at_each_place(self):
        for wrong in WRONG:
            self.refused_at([wrong], 0)
            self.refused_at([wrong] + SORTS, 0)
            self.refused_at(SORTS[:3] + [wrong] + SORTS[3:], 3)
            self.refused_at(SORTS + [wrong], 6)

    def test_the_first_of_several_with_worse_ones_behind(self):
        for wrong in WRONG:
            self.refused_at([SORTS[0], wrong, (), (9, 0, -1, ()), (0, 1, 1, ("put",))], 1)

    def test_a_deed_that_is_none_behind_one_of_its_name(self):
        self.refused_at([(0, 1, 1, ("bye",)), (0, 1, 1, ("bye",)), (0, 1, 0, ("bye",))], 2)

    def test_far_behind(self):
        deeds = [(0, number, number, ("bye",)) for number in range(1, 400)]
        self.refused_at(deeds + [()], 399)

    def test_edges_are_not_refused(self):
        for deed in GOOD:
            with self.subTest(deed=deed):
                self.assertEqual(ordered([deed]), [deed])


if __name__ == "__main__":
    unittest.main()
