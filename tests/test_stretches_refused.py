"""Promises 2 and 3: what is refused, and which refusal comes first."""

import unittest

from doneranges.errors import BadCount, BadStretches, NoHouse
from doneranges.stretches import (amount, by_many, common, gaps, has, joined, less, plain, whole_to, within)
from helpers import TOP, apart, refusal

# Each way in which a row can be none.
WRONG = [
    (), (1,), (1, 2), (1, 2, 3, 4),
    (-1, 1, 2), (8, 1, 2), (TOP, 1, 2),
    (0, 0, 2), (0, -3, 2), (0, 0, 0), (0, -3, -2),
    (0, 1, TOP + 1), (7, TOP, TOP + 1), (7, TOP + 1, TOP + 1),
    (0, 2, 1), (0, TOP, 1), (0, TOP, TOP - 1), (0, 5, 0), (0, 5, -5),
    ("0", 1, 2), (0, "1", 2), (0, 1, "2"), (None, 1, 2), (0, None, 2), (0, 1, None), (0, 1, ()),
    (True, 1, 2), (0, True, 2), (0, 1, True), [0, 1, 2], None,
]
GOOD = [(7, TOP, TOP), (0, 1, 9), (0, 3, 4), (1, 1, TOP)]

# Each call with one set, its others left good.
ONE_SET = [
    ("plain", lambda rows: plain(rows)),
    ("gaps", lambda rows: gaps(rows)),
    ("amount", lambda rows: amount(rows)),
    ("has", lambda rows: has(rows, 0, 1)),
    ("whole_to", lambda rows: whole_to(rows, 0)),
    ("joined, first", lambda rows: joined(rows, GOOD)),
    ("joined, second", lambda rows: joined(GOOD, rows)),
    ("common, first", lambda rows: common(rows, GOOD)),
    ("common, second", lambda rows: common(GOOD, rows)),
    ("common, with none", lambda rows: common([], rows)),
    ("less, first", lambda rows: less(rows, GOOD)),
    ("less, second", lambda rows: less(GOOD, rows)),
    ("less, from none", lambda rows: less([], rows)),
    ("within, first", lambda rows: within(rows, GOOD)),
    ("within, second", lambda rows: within(GOOD, rows)),
    ("within, none", lambda rows: within([], rows)),
    ("by_many, first", lambda rows: by_many([rows, GOOD, GOOD], 1)),
    ("by_many, middle", lambda rows: by_many([GOOD, rows, GOOD], 2)),
    ("by_many, last", lambda rows: by_many([GOOD, GOOD, rows], 3)),
]
TWO_SETS = [joined, common, less, within, lambda one, other: by_many([one, other], 1)]


class BadStretchesTest(unittest.TestCase):
    def refused_at(self, rows, at):
        for name, call in ONE_SET:
            with self.subTest(name, rows=rows[:6]):
                self.assertEqual(refusal(BadStretches, call, rows).at, at)

    def test_each_way_at_each_place(self):
        for wrong in WRONG:
            self.refused_at([wrong], 0)
            self.refused_at([wrong] + GOOD, 0)
            self.refused_at(GOOD[:2] + [wrong] + GOOD[2:], 2)
            self.refused_at(GOOD + [wrong], 4)

    def test_the_first_of_several_with_worse_ones_behind(self):
        for wrong in WRONG:
            self.refused_at([(0, 1, 1), wrong, (), (9, 9, 1), (0, 1, TOP + 1)], 1)

    def test_a_row_too_many(self):
        self.refused_at(apart(3, 2, count=201), 200)
        self.refused_at([(3, 1, 1)] * 201, 200)
        self.refused_at([(3, 1, 1)] * 450, 200)

    def test_a_row_that_is_none_comes_ahead_of_a_row_too_many(self):
        rows = apart(3, 2, count=201)
        self.refused_at([()] + rows[1:], 0)
        self.refused_at(rows[:100] + [(8, 1, 1)] + rows[101:], 100)
        self.refused_at(rows[:199] + [(0, 2, 1)] + rows[200:], 199)
        self.refused_at(rows[:200] + [(0, 2, 1)], 200)
        self.refused_at(rows + [(0, 2, 1)], 200)

    def test_two_hundred_rows_are_not_refused(self):
        for name, call in ONE_SET:
            with self.subTest(name):
                call(apart(3, 2))
                call([(3, 1, 1)] * 200)

    def test_bounds_are_not_refused(self):
        for name, call in ONE_SET:
            with self.subTest(name):
                call([(0, 1, 1), (0, TOP, TOP), (7, 1, TOP), (7, 1, 1)])
                call([])

    def test_the_first_set_is_refused_first(self):
        late = [(0, 1, 1), (0, 1, 1), (0, 2, 1)]
        for call in TWO_SETS:
            self.assertEqual(refusal(BadStretches, call, late, [()]).at, 2)
            self.assertEqual(refusal(BadStretches, call, [()], late).at, 0)
            self.assertEqual(refusal(BadStretches, call, [(0, 1, 1)] * 201, late).at, 200)
            self.assertEqual(refusal(BadStretches, call, late, [(0, 1, 1)] * 201).at, 2)


class OthersTest(unittest.TestCase):
    def test_bad_count(self):
        for many in range(5):
            for least in (0, -1, -TOP, many + 1, many + 2, TOP):
                with self.subTest(many=many, least=least):
                    refusal(BadCount, by_many, [[(0, 1, 9)]] * many, least)
            for least in range(1, many + 1):
                self.assertEqual(by_many([[(0, 1, 9)]] * many, least), [(0, 1, 9)])

    def test_no_house(self):
        for rows in ([], GOOD):
            for house in (-1, 8, 9, -TOP, TOP):
                with self.subTest(rows=rows, house=house):
                    refusal(NoHouse, has, rows, house, 1)
                    refusal(NoHouse, has, rows, house, 0)
                    refusal(NoHouse, whole_to, rows, house)

    def test_what_is_handed_in_first_is_refused_first(self):
        wrong = [(0, 1, 1), (0, 2, 1)]
        self.assertEqual(refusal(BadStretches, has, wrong, 8, 0).at, 1)
        self.assertEqual(refusal(BadStretches, whole_to, wrong, -1).at, 1)
        self.assertEqual(refusal(BadStretches, by_many, [[], wrong], 0).at, 1)
        self.assertEqual(refusal(BadStretches, by_many, [wrong, [()]], 3).at, 1)
        self.assertEqual(refusal(BadStretches, by_many, [[], [(0, 1, 1)] * 201], 3).at, 200)


if __name__ == "__main__":
    unittest.main()
