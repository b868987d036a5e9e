"""Promise 4: deeds, their order and their set."""

import copy
import itertools
import random
import unittest

from doneranges.deeds import ordered, stretches
from doneranges.errors import BadDeed
from helpers import TOP, apart, asked, refusal, told

# One of every sort, by their stamps.
SORTS = [
    (2, 1, 1, ("put", 0, 5)),
    (0, 1, 2, ("add", 5, -5)),
    (2, 2, 2, ("back", 2, 1)),
    (0, 2, 3, ("seal", ((0, 1, 1), (2, 1, 2)))),
    (7, 1, 3, ("seal", ())),
    (0, 4, 4, ("bye",)),
]

# Edges that the document names, each a deed.
GOOD = [
    (0, 1, 1, ("bye",)), (7, 1, 1, ("bye",)), (0, TOP, TOP, ("bye",)), (7, TOP, TOP, ("bye",)),
    (3, 1, TOP, ("bye",)), (3, 9, 9, ("bye",)), (3, 9, 10, ("bye",)),
    (0, 1, 1, ("put", 0, 0)), (0, 1, 1, ("put", 5, TOP)), (0, 1, 1, ("put", 5, -TOP)),
    (0, 1, 1, ("add", 0, 0)), (0, 1, 1, ("add", 5, TOP)), (0, 1, 1, ("add", 5, -TOP)),
    (0, 1, 1, ("back", 0, 1)), (0, 1, 1, ("back", 7, TOP)), (0, 1, 1, ("back", 0, TOP)),
    (0, 1, 1, ("seal", ())), (0, 1, 1, ("seal", ((0, 1, 1),))), (0, 1, 1, ("seal", ((7, 1, TOP),))),
    (0, 1, 1, ("seal", ((0, 1, 4), (0, 6, 9), (1, 10, 10), (7, TOP, TOP)))),
    (0, 1, 1, ("seal", ((0, 1, 4), (1, 5, 9)))),
    (0, 1, 1, ("seal", tuple(apart(4, 2)))),
]

WRONG_WHAT = [
    (), ("put",), ("put", 0), ("put", 0, 1, 2), ("add",), ("add", 0), ("add", 0, 1, 2),
    ("put", -1, 0), ("put", 6, 0), ("put", 0, TOP + 1), ("put", 0, -TOP - 1),
    ("add", -1, 0), ("add", 6, 0), ("add", 0, TOP + 1), ("add", 0, -TOP - 1),
    ("put", "0", 1), ("put", 0, "1"), ("put", None, 1), ("put", 0, None), ("put", True, 1), ("add", 0, True),
    ("back",), ("back", 0), ("back", 0, 1, 2), ("back", -1, 1), ("back", 8, 1), ("back", 0, 0), ("back", 0, -1),
    ("back", 0, TOP + 1), ("back", (0, 1)), ("back", None, 1), ("back", 0, "1"), ("back", False, 1),
    ("seal",), ("seal", (), ()), ("seal", 0), ("seal", None), ("seal", (0, 1, 1)), ("seal", ((),)),
    ("seal", ((0, 1),)), ("seal", ((0, 1, 1, 1),)), ("seal", ((8, 1, 1),)), ("seal", ((-1, 1, 1),)),
    ("seal", ((0, 0, 1),)), ("seal", ((0, 1, TOP + 1),)), ("seal", ((0, 2, 1),)), ("seal", [(0, 1, 1)]),
    ("seal", ((0, 1, 1), (0, 3, 2))), ("seal", (0, 1, 1), (0, 3, 3)),
    # Not by the fewest rows, or not rising.
    ("seal", ((0, 1, 1), (0, 2, 2))), ("seal", ((0, 1, 9), (0, 3, 4))), ("seal", ((0, 1, 9), (0, 1, 9))),
    ("seal", ((0, 1, 5), (0, 4, 9))), ("seal", ((0, 5, 5), (0, 1, 1))), ("seal", ((1, 1, 1), (0, 1, 1))),
    ("seal", ((0, 1, 1), (1, 1, 1), (1, 2, 2))), ("seal", ((0, TOP - 1, TOP - 1), (0, TOP, TOP))),
    # A set has no 201st row.
    ("seal", tuple(apart(4, 2, count=201))),
    ("bye", 0), ("bye", ()), ("bye", "bye"),
    ("Put", 0, 1), ("sub", 0, 1), ("", 0, 1), ("",), (None,), (0,), (0, 0, 1), (("put", 0, 1),), (["bye"],),
    "bye", "put", None, 0,
]

# Each way in which a deed can be none.
WRONG = [
    (), (0,), (0, 1), (0, 1, 1), (0, 1, 1, ("bye",), 0), (0, 1, 1, "put", 0, 5),
    (-1, 1, 1, ("bye",)), (8, 1, 1, ("bye",)), (TOP, 1, 1, ("bye",)),
    (0, 0, 1, ("bye",)), (0, -1, 1, ("bye",)), (0, 0, 0, ("bye",)), (0, -2, -1, ("bye",)),
    (0, TOP + 1, TOP + 1, ("bye",)), (0, TOP + 1, TOP, ("bye",)),
    (0, 2, 1, ("bye",)), (0, TOP, TOP - 1, ("bye",)), (0, 1, 0, ("bye",)), (0, 1, -1, ("bye",)),
    (0, 1, TOP + 1, ("bye",)), (0, TOP, TOP + 1, ("bye",)),
    ("0", 1, 1, ("bye",)), (0, "1", 1, ("bye",)), (0, 1, "1", ("bye",)), (None, 1, 1, ("bye",)),
    (0, None, 1, ("bye",)), (0, 1, None, ("bye",)), (True, 1, 1, ("bye",)), (0, True, 1, ("bye",)),
    (0, 1, True, ("bye",)), (("bye",), 1, 1, 0), (0, 1, ("bye",), 1),
    [0, 1, 1, ("bye",)], None,
] + [(0, 1, 1, what) for what in WRONG_WHAT]


def some_deeds(chance, many):
    """Deeds of every sort, of all houses, some of one time."""
    names = chance.sample([(house, number) for house in range(8) for number in range(1, 9)], many)
    whats = [deed[3] for deed in SORTS]
    return [(house, number, number + chance.randrange(6), chance.choice(whats)) for house, number in names]


class OrderedTest(unittest.TestCase):
    def test_no_deeds(self):
        self.assertEqual(asked(ordered, []), [])

    def test_one_deed(self):
        for deed in GOOD:
            self.assertEqual(asked(ordered, [deed]), [deed])

    def test_every_sort_in_any_order(self):
        for deeds in itertools.permutations(SORTS):
            self.assertEqual(ordered(list(deeds)), SORTS)
        self.assertEqual(asked(ordered, SORTS[::-1]), SORTS)

    def test_by_time_then_house_then_number(self):
        deeds = [(0, 3, 3, ("bye",)), (1, 1, 4, ("bye",)), (1, 2, 4, ("bye",)), (2, 1, 4, ("bye",)),
                 (0, 1, 5, ("bye",)), (0, 2, TOP, ("bye",)), (7, TOP, TOP, ("bye",))]
        for turn in range(len(deeds)):
            self.assertEqual(asked(ordered, deeds[turn:] + deeds[:turn][::-1]), deeds)

    def test_told_again(self):
        self.assertEqual(asked(ordered, SORTS + SORTS[::-1] + SORTS[2:4]), SORTS)
        # Equal, but not the same object.
        self.assertEqual(asked(ordered, SORTS + copy.deepcopy(SORTS)), SORTS)

    def test_deeds_of_one_number_or_one_house_are_several(self):
        deeds = [(0, 1, 1, ("put", 1, 1)), (1, 1, 1, ("put", 1, 1)), (1, 2, 2, ("put", 1, 1))]
        self.assertEqual(asked(ordered, deeds), deeds)

    def test_many(self):
        chance = random.Random(4)
        for many in range(0, 65, 4):
            deeds = some_deeds(chance, many)
            expected = sorted(deeds, key=lambda deed: (deed[2], deed[0], deed[1]))
            self.assertEqual(asked(ordered, deeds + deeds[:many // 2]), expected)


class StretchesTest(unittest.TestCase):
    def test_no_deeds(self):
        self.assertEqual(asked(stretches, []), [])

    def test_every_sort(self):
        for deeds in itertools.permutations(SORTS):
            self.assertEqual(stretches(list(deeds)), [(0, 1, 2), (0, 4, 4), (2, 1, 2), (7, 1, 1)])
        self.assertEqual(asked(stretches, SORTS + SORTS), [(0, 1, 2), (0, 4, 4), (2, 1, 2), (7, 1, 1)])

    def test_one_deed(self):
        for deed in GOOD:
            self.assertEqual(asked(stretches, [deed]), [(deed[0], deed[1], deed[1])])

    def test_many(self):
        chance = random.Random(5)
        for many in range(0, 65, 4):
            deeds = some_deeds(chance, many)
            names = {(house, number) for house, number, _, _ in deeds}
            self.assertEqual(asked(stretches, deeds + deeds[::-1]), told(names))

    def test_more_than_two_hundred_deeds(self):
        deeds = [(3, number, number, ("bye",)) for number in range(500, 0, -1)]
        self.assertEqual(asked(stretches, deeds), [(3, 1, 500)])
        self.assertEqual(asked(stretches, deeds[::2]), apart(3, 2, 2, 250))


class BadDeedTest(unittest.TestCase):
    def refused_at(self, deeds, at):
        for call in (ordered, stretches):
            with self.subTest(call.__name__, deeds=deeds):
                self.assertEqual(refusal(BadDeed, call, deeds).at, at)

    def test_each_way_at_each_place(self):
        for wrong in WRONG:
            self.refused_at([wrong], 0)
            self.refused_at([wrong] + SORTS, 0)
            self.refused_at(SORTS[:3] + [wrong] + SORTS[3:], 3)
            self.refused_at(SORTS + [wrong], 6)

    def test_the_first_of_several_with_worse_ones_behind(self):
        for wrong in WRONG:
            self.refused_at([SORTS[0], wrong, (), (9, 0, -1, ()), (0, 1, 1, ("put",))], 1)

    def test_a_deed_that_is_none_behind_one_of_its_name(self):
        self.refused_at([(0, 1, 1, ("bye",)), (0, 1, 1, ("bye",)), (0, 1, 0, ("bye",))], 2)

    def test_far_behind(self):
        deeds = [(0, number, number, ("bye",)) for number in range(1, 400)]
        self.refused_at(deeds + [()], 399)

    def test_edges_are_not_refused(self):
        for deed in GOOD:
            with self.subTest(deed=deed):
                self.assertEqual(ordered([deed]), [deed])


if __name__ == "__main__":
    unittest.main()
