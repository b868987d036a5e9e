"""Promises 2 and 3: what sets tell."""

import unittest

from doneranges.stretches import (amount, by_many, common, gaps, has, joined, less, plain, whole_to, within)
from helpers import TOP, apart, asked, many_sets, spread, told


class PlainTest(unittest.TestCase):
    def test_the_empty_set(self):
        self.assertEqual(asked(plain, []), [])

    def test_one_row(self):
        self.assertEqual(asked(plain, [(3, 5, 9)]), [(3, 5, 9)])
        self.assertEqual(asked(plain, [(3, 5, 5)]), [(3, 5, 5)])

    def test_the_bounds(self):
        rows = [(7, 1, TOP), (0, TOP, TOP), (0, 1, 1), (1, 1, TOP)]
        self.assertEqual(asked(plain, rows), [(0, 1, 1), (0, TOP, TOP), (1, 1, TOP), (7, 1, TOP)])

    def test_rows_rise_by_house_then_by_number(self):
        rows = [(2, 30, 31), (1, 100, 200), (2, 4, 9), (0, 7, 7)]
        self.assertEqual(asked(plain, rows), [(0, 7, 7), (1, 100, 200), (2, 4, 9), (2, 30, 31)])

    def test_rows_alike_in_one_another_and_across(self):
        self.assertEqual(asked(plain, [(0, 1, 9), (0, 1, 9), (0, 1, 9)]), [(0, 1, 9)])
        self.assertEqual(asked(plain, [(0, 1, 9), (0, 3, 4)]), [(0, 1, 9)])
        self.assertEqual(asked(plain, [(0, 3, 9), (0, 1, 9), (0, 1, 2)]), [(0, 1, 9)])
        self.assertEqual(asked(plain, [(0, 4, 9), (0, 1, 6)]), [(0, 1, 9)])

    def test_rows_side_by_side_become_one(self):
        self.assertEqual(asked(plain, [(4, 4, 6), (4, 1, 3)]), [(4, 1, 6)])
        self.assertEqual(asked(plain, [(4, 1, 3), (4, 5, 6)]), [(4, 1, 3), (4, 5, 6)])
        self.assertEqual(asked(plain, [(4, TOP, TOP), (4, TOP - 2, TOP - 1)]), [(4, TOP - 2, TOP)])

    def test_rows_of_other_houses_stay_apart(self):
        rows = [(house, 1, TOP) for house in range(8)]
        self.assertEqual(asked(plain, rows[::-1]), rows)
        self.assertEqual(asked(plain, [(1, 4, 6), (0, 1, 3)]), [(0, 1, 3), (1, 4, 6)])

    def test_two_hundred_rows(self):
        rows = apart(5, 2)
        self.assertEqual(asked(plain, rows[::-1]), rows)
        self.assertEqual(asked(plain, [(5, k, k) for k in range(200, 0, -1)]), [(5, 1, 200)])
        self.assertEqual(asked(plain, [(k % 8, 1 + k // 8, 1 + k // 8) for k in range(200)]),
                         [(house, 1, 25) for house in range(8)])


class TwoSetsTest(unittest.TestCase):
    def test_joined(self):
        self.assertEqual(asked(joined, [(1, 1, 4), (0, 3, 3)], [(1, 5, 6), (0, 1, 1)]),
                         [(0, 1, 1), (0, 3, 3), (1, 1, 6)])
        self.assertEqual(asked(joined, [(1, 1, 4)], [(1, 2, 3)]), [(1, 1, 4)])

    def test_common(self):
        self.assertEqual(asked(common, [(1, 1, 9), (0, 3, 3)], [(1, 5, 12), (2, 3, 3)]), [(1, 5, 9)])
        self.assertEqual(asked(common, [(1, 1, 4)], [(1, 5, 6)]), [])
        self.assertEqual(asked(common, [(1, 1, 5)], [(1, 5, 6)]), [(1, 5, 5)])

    def test_common_of_rows_side_by_side_is_one_row(self):
        self.assertEqual(asked(common, [(1, 1, 3), (1, 4, 9)], [(1, 2, 5), (1, 6, 7)]), [(1, 2, 7)])

    def test_common_takes_rows_in_one_another_as_one_set(self):
        self.assertEqual(asked(common, [(1, 1, 9), (1, 2, 3)], []), [])
        self.assertEqual(asked(common, [], [(1, 1, 9), (1, 1, 9)]), [])

    def test_less(self):
        self.assertEqual(asked(less, [(1, 1, 9), (2, 1, 1)], [(1, 4, 5), (0, 1, 9)]),
                         [(1, 1, 3), (1, 6, 9), (2, 1, 1)])
        self.assertEqual(asked(less, [(1, 1, 9)], [(1, 1, 1), (1, 9, 9)]), [(1, 2, 8)])
        self.assertEqual(asked(less, [(1, 3, 4)], [(1, 1, 9)]), [])

    def test_less_takes_rows_in_one_another_as_one_set(self):
        self.assertEqual(asked(less, [(1, 1, 9), (1, 1, 9)], [(1, 4, 5)]), [(1, 1, 3), (1, 6, 9)])
        self.assertEqual(asked(less, [(1, 1, 9)], [(1, 4, 5), (1, 5, 6)]), [(1, 1, 3), (1, 7, 9)])

    def test_within(self):
        self.assertIs(asked(within, [(1, 1, 4), (1, 6, 9)], [(1, 1, 9)]), True)
        self.assertIs(asked(within, [(1, 1, 9)], [(1, 5, 9), (1, 1, 4)]), True)
        self.assertIs(asked(within, [(1, 1, 9)], [(1, 1, 4), (1, 6, 9)]), False)
        self.assertIs(asked(within, [(1, 1, 9)], [(2, 1, 9)]), False)
        self.assertIs(asked(within, [(1, 1, 9), (1, 2, 3)], [(1, 1, 9)]), True)
        self.assertIs(asked(within, [(0, 1, TOP)], [(0, 1, TOP - 1)]), False)

    def test_with_the_empty_set(self):
        rows = [(1, 3, 4), (1, 5, 9)]
        for call, ahead, behind in ((joined, [(1, 3, 9)], [(1, 3, 9)]), (common, [], []), (less, [(1, 3, 9)], []),
                                    (within, False, True)):
            with self.subTest(call.__name__):
                self.assertEqual(asked(call, rows, []), ahead)
                self.assertEqual(asked(call, [], rows), behind)
        self.assertEqual([asked(call, [], []) for call in (joined, common, less)], [[], [], []])
        self.assertIs(asked(within, [], []), True)

    def test_with_itself(self):
        rows = [(1, 3, 4), (0, 5, 9)]
        self.assertEqual(joined(rows, rows), [(0, 5, 9), (1, 3, 4)])
        self.assertEqual(common(rows, rows), [(0, 5, 9), (1, 3, 4)])
        self.assertEqual(less(rows, rows), [])
        self.assertIs(within(rows, rows), True)
        self.assertEqual(rows, [(1, 3, 4), (0, 5, 9)])

    def test_the_bounds(self):
        whole = [(house, 1, TOP) for house in range(8)]
        rims = [(house, number, number) for house in (0, 7) for number in (1, TOP)]
        self.assertEqual(asked(joined, rims, whole), whole)
        self.assertEqual(asked(common, whole, rims), rims)
        self.assertEqual(asked(less, whole, rims),
                         [(0, 2, TOP - 1)] + whole[1:7] + [(7, 2, TOP - 1)])

    def test_two_hundred_rows_each(self):
        odd, even = apart(6, 2), apart(6, 2, 2)
        self.assertEqual(asked(joined, odd, even), [(6, 1, 400)])
        self.assertEqual(asked(common, odd, even), [])
        self.assertEqual(asked(less, odd, even), odd)
        self.assertIs(asked(within, odd, even), False)
        self.assertIs(asked(within, odd, odd[::-1]), True)

    def test_more_than_two_hundred_rows_are_told(self):
        one, other = apart(6, 2), apart(2, 2)
        self.assertEqual(asked(joined, one, other), other + one)
        self.assertEqual(asked(by_many, [one, other], 1), other + one)
        self.assertEqual(len(asked(less, [(6, 1, 1000), *apart(2, 2, count=199)], one)), 399)


class ByManyTest(unittest.TestCase):
    SETS = [[(0, 1, 6), (0, 2, 3)], [(0, 4, 9)], [(0, 6, 7), (1, 5, 5)]]

    def test_from_one_to_as_many_as_there_are(self):
        self.assertEqual(asked(by_many, self.SETS, 1), [(0, 1, 9), (1, 5, 5)])
        self.assertEqual(asked(by_many, self.SETS, 2), [(0, 4, 7)])
        self.assertEqual(asked(by_many, self.SETS, 3), [(0, 6, 6)])

    def test_of_one_set(self):
        self.assertEqual(asked(by_many, [[(0, 4, 9), (0, 1, 5)]], 1), [(0, 1, 9)])
        self.assertEqual(asked(by_many, [[]], 1), [])

    def test_a_set_counts_as_often_as_it_is_handed_in(self):
        rows = [(0, 4, 9), (0, 10, 10)]
        self.assertEqual(asked(by_many, [rows, rows, []], 2), [(0, 4, 10)])
        self.assertEqual(asked(by_many, [rows, rows, []], 3), [])

    def test_many_sets(self):
        sets = [[(7, TOP - k, TOP)] for k in range(20)]
        for least in range(1, 21):
            self.assertEqual(by_many(sets, least), [(7, TOP - 20 + least, TOP)])


class OneSetTest(unittest.TestCase):
    def test_the_empty_set(self):
        self.assertEqual(asked(gaps, []), [])
        self.assertEqual(asked(amount, []), 0)
        for house in range(8):
            self.assertEqual(asked(whole_to, [], house), 0)
            self.assertIs(asked(has, [], house, 1), False)

    def test_gaps(self):
        self.assertEqual(asked(gaps, [(0, 1, 5)]), [])
        self.assertEqual(asked(gaps, [(3, 2, 5)]), [(3, 1, 1)])
        self.assertEqual(asked(gaps, [(1, 9, 9), (1, 4, 5), (0, 7, 8)]), [(0, 1, 6), (1, 1, 3), (1, 6, 8)])
        self.assertEqual(asked(gaps, [(1, 1, 5), (1, 6, 9), (1, 2, 3)]), [])

    def test_gaps_at_the_bounds(self):
        self.assertEqual(asked(gaps, [(7, TOP, TOP), (0, 1, TOP)]), [(7, 1, TOP - 1)])
        self.assertEqual(asked(gaps, [(7, 1, 1), (7, TOP, TOP)]), [(7, 2, TOP - 1)])

    def test_has(self):
        rows = [(1, 4, 6), (1, 5, 9), (0, 1, 1), (7, TOP, TOP)]
        for house in range(8):
            for number in (1, 2, 3, 4, 5, 6, 8, 9, 10, TOP - 1, TOP):
                among = (house, number) in ((0, 1), (1, 4), (1, 5), (1, 6), (1, 8), (1, 9), (7, TOP))
                self.assertIs(asked(has, rows, house, number), among)

    def test_a_number_beyond_is_in_no_set(self):
        rows = [(house, 1, TOP) for house in range(8)]
        for number in (0, -1, TOP + 1):
            self.assertIs(asked(has, rows, 0, number), False)

    def test_amount(self):
        self.assertEqual(asked(amount, [(0, 3, 3)]), 1)
        self.assertEqual(asked(amount, [(0, 3, 6), (1, 3, 6), (0, 5, 8), (0, 5, 8)]), 10)
        self.assertEqual(asked(amount, [(house, 1, TOP) for house in range(8)]), 8 * TOP)
        self.assertEqual(asked(amount, apart(0, 2)), 200)

    def test_whole_to(self):
        rows = [(1, 4, 6), (1, 1, 3), (1, 8, 9), (0, 2, 5), (7, 1, TOP)]
        self.assertEqual([asked(whole_to, rows, house) for house in range(8)], [0, 6, 0, 0, 0, 0, 0, TOP])
        self.assertEqual(asked(whole_to, [(0, 1, 1)], 0), 1)
        self.assertEqual(asked(whole_to, [(0, 2, TOP), (0, 1, 1)], 0), TOP)
        self.assertEqual(asked(whole_to, [(0, 1, 5), (0, 2, 3)], 0), 5)


class AgainstOneByOneTest(unittest.TestCase):
    """Many small sets, near 1 and near 10 to the twelfth, against the same told deed by deed."""

    def test_two_sets(self):
        for one, other in many_sets(400, 2):
            with self.subTest(one=one, other=other):
                first, second = spread(one), spread(other)
                self.assertEqual(asked(plain, one), told(first))
                self.assertEqual(asked(joined, one, other), told(first | second))
                self.assertEqual(asked(common, one, other), told(first & second))
                self.assertEqual(asked(less, one, other), told(first - second))
                self.assertIs(asked(within, one, other), first <= second)
                self.assertIs(asked(within, common(one, other), other), True)
                self.assertEqual(asked(amount, one), len(first))

    def test_several_sets(self):
        for sets in many_sets(150, 4):
            names = [spread(rows) for rows in sets]
            for least in range(1, 5):
                with self.subTest(sets=sets, least=least):
                    held = {name for part in names for name in part
                            if sum(name in other for other in names) >= least}
                    self.assertEqual(asked(by_many, sets, least), told(held))

    def test_single_deeds_and_gaps(self):
        for [rows] in many_sets(150, 1):
            if any(first > 14 for _, first, _ in rows):
                continue
            names = spread(rows)
            with self.subTest(rows=rows):
                lasts = {house: max(number for maker, number in names if maker == house)
                         for house, _ in names}
                lacking = {(house, number) for house in lasts for number in range(1, lasts[house])}
                self.assertEqual(asked(gaps, rows), told(lacking - names))
                for house in range(8):
                    whole = 0
                    while (house, whole + 1) in names:
                        whole += 1
                    self.assertEqual(asked(whole_to, rows, house), whole)
                    for number in range(1, 17):
                        self.assertIs(has(rows, house, number), (house, number) in names)


if __name__ == "__main__":
    unittest.main()
