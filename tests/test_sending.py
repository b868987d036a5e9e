"""Promise 15: the least that is sent."""

import itertools
import random
import unittest

from doneranges.cutting import closing, cut, renew
from doneranges.cutting import copy as copy_of
from doneranges.errors import BadCount, BadStretches, NotYet
from doneranges.sending import plan
from helpers import TOP, apart, asked, refusal, some_rows, spread, told
from housing import EVERYTHING, houses, send

WRONG_ROWS = [(), (0, 1), (-1, 1, 1), (8, 1, 1), (0, 0, 1), (0, 2, 1), (0, 1, TOP + 1), (0, 1, 1, 1)]


def slow_givers(lacking, given):
    """The fewest houses that can give all that lacks, tried one by one."""
    groups = [group for size in range(7) for group in itertools.combinations(range(len(given)), size)]
    able = [group for group in groups if lacking <= set().union(*[given[giver] for giver in group])]
    return min(able, key=lambda group: (len(group), group))


def slow_plan(dones, bases):
    """The plan, told of sets of names; None for NotYet."""
    dones, bases = [spread(rows) for rows in dones], [spread(rows) for rows in bases]
    copies, letters = [], []
    for taker, done in enumerate(dones):
        lacking = set().union(*dones) - done
        others = [house for house in range(len(dones)) if house != taker]
        stuck = {one for one in lacking if all(one not in dones[house] - bases[house] for house in others)}
        if stuck:
            able = [house for house in others if stuck <= dones[house] & bases[house]]
            if not able:
                return None
            copies.append((able[0], taker))
            lacking -= dones[able[0]]
        for giver in slow_givers(lacking, [held - base for held, base in zip(dones, bases)]):
            letters.append((giver, taker, told(lacking & (dones[giver] - bases[giver]))))
            lacking -= dones[giver] - bases[giver]
    return copies, letters


class PlanTest(unittest.TestCase):
    def test_nothing_lacks(self):
        self.assertEqual(asked(plan, [[]], [[]]), ([], []))
        self.assertEqual(asked(plan, [[(0, 1, 9)]], [[(0, 1, 9), (5, 1, 1)]]), ([], []))
        for many in range(1, 7):
            self.assertEqual(asked(plan, [[(0, 1, 3)]] * many, [[]] * many), ([], []))
            self.assertEqual(asked(plan, [[(0, 1, 3)]] * many, [[(0, 1, 3)]] * many), ([], []))
            self.assertEqual(asked(plan, [[]] * many, [[(0, 1, 3)]] * many), ([], []))

    def test_letters_to_each_house_in_turn(self):
        dones = [[(0, 1, 2)], [(1, 1, 1)], [(2, 5, 5)]]
        self.assertEqual(asked(plan, dones, [[], [], []]), ([], [
            (1, 0, [(1, 1, 1)]), (2, 0, [(2, 5, 5)]),
            (0, 1, [(0, 1, 2)]), (2, 1, [(2, 5, 5)]),
            (0, 2, [(0, 1, 2)]), (1, 2, [(1, 1, 1)])]))

    def test_a_letter_brings_only_what_lacks(self):
        self.assertEqual(asked(plan, [[(0, 4, 6), (0, 1, 5)], [(0, 3, 4), (1, 1, 1)]], [[], []]),
                         ([], [(1, 0, [(1, 1, 1)]), (0, 1, [(0, 1, 2), (0, 5, 6)])]))

    def test_nothing_is_sent_twice(self):
        # Both givers hold 3 to 4; the first in rising order brings it.
        dones = [[], [(0, 1, 4)], [(0, 3, 6)]]
        self.assertEqual(asked(plan, dones, [[]] * 3)[1][:2], [(1, 0, [(0, 1, 4)]), (2, 0, [(0, 5, 6)])])

    def test_the_fewest_houses(self):
        # The last one alone can give all that the first three can together.
        dones = [[], [(0, 1, 2)], [(0, 3, 4)], [(0, 5, 6)], [(0, 1, 6)]]
        self.assertEqual(plan(dones, [[]] * 5), ([], [
            (4, 0, [(0, 1, 6)]), (4, 1, [(0, 3, 6)]), (4, 2, [(0, 1, 2), (0, 5, 6)]), (4, 3, [(0, 1, 4)])]))

    def test_of_several_the_first_as_lists_ascend(self):
        # Houses 1 and 4, and 2 and 3, and 3 and 4 can give all: [1, 4] is the first.
        dones = [[], [(0, 1, 3)], [(0, 1, 2)], [(0, 3, 6)], [(0, 1, 2), (0, 4, 6)]]
        self.assertEqual(plan(dones, [[]] * 5)[1][:2], [(1, 0, [(0, 1, 3)]), (3, 0, [(0, 4, 6)])])
        dones[3] = [(0, 3, 5)]
        self.assertEqual(plan(dones, [[]] * 5)[1][:2], [(1, 0, [(0, 1, 3)]), (4, 0, [(0, 4, 6)])])
        dones[1] = [(0, 1, 1)]
        self.assertEqual(plan(dones, [[]] * 5)[1][:2], [(3, 0, [(0, 3, 5)]), (4, 0, [(0, 1, 2), (0, 6, 6)])])

    def test_one_of_several_that_can_give_all(self):
        self.assertEqual(plan([[(0, 1, 3)], [], [(0, 1, 3)], [(0, 1, 3)]], [[]] * 4), ([], [(0, 1, [(0, 1, 3)])]))
        # The first one gave up a part.
        self.assertEqual(plan([[(0, 1, 3)], [], [(0, 1, 3)], [(0, 1, 3)]], [[(0, 2, 2)], [], [], []]),
                         ([], [(2, 1, [(0, 1, 3)])]))

    def test_a_copy_is_needed(self):
        dones, bases = [[(0, 1, 9)], [(0, 8, 9)]], [[(0, 1, 5)], []]
        # A copy brings all that its house holds, so no letter is left.
        self.assertEqual(asked(plan, dones, bases), ([(0, 1)], []))

    def test_a_copy_is_not_needed(self):
        # What one house can't give another one can.
        dones, bases = [[(0, 1, 9)], [(0, 8, 9)], [(0, 1, 5)]], [[(0, 1, 5)], [], []]
        self.assertEqual(asked(plan, dones, bases),
                         ([], [(0, 1, [(0, 6, 7)]), (2, 1, [(0, 1, 5)]), (0, 2, [(0, 6, 9)])]))
        # Nobody lacks it.
        self.assertEqual(asked(plan, [[(0, 1, 5)]] * 2, [[(0, 1, 5)], [(0, 1, 2)]]), ([], []))

    def test_a_copy_for_a_single_deed(self):
        # What house 1 gave up house 0 can give, but for the one deed that it lacks.
        dones, bases = [[(0, 1, 5)], [(0, 1, 6)]], [[], [(0, 1, 6)]]
        self.assertEqual(asked(plan, dones, bases), ([(1, 0)], []))

    def test_letters_behind_a_copy(self):
        dones = [[(0, 1, 6), (1, 1, 1)], [(0, 1, 9)], [(1, 2, 3)], []]
        bases = [[(0, 1, 4)], [(0, 1, 4)], [], []]
        self.assertEqual(asked(plan, dones, bases), ([(0, 2), (0, 3)], [
            (1, 0, [(0, 7, 9)]), (2, 0, [(1, 2, 3)]),
            (0, 1, [(1, 1, 1)]), (2, 1, [(1, 2, 3)]),
            (1, 2, [(0, 7, 9)]),
            (1, 3, [(0, 7, 9)]), (2, 3, [(1, 2, 3)])]))

    def test_the_first_house_that_can_copy(self):
        dones = [[], [(0, 1, 3)], [(0, 1, 6)], [(0, 1, 9)]]
        bases = [[], [(0, 1, 3)], [(0, 1, 6)], [(0, 1, 6)]]
        self.assertEqual(plan(dones, bases), ([(2, 0), (2, 1)], [
            (3, 0, [(0, 7, 9)]), (3, 1, [(0, 7, 9)]), (3, 2, [(0, 7, 9)])]))
        # What house 0 holds, and what it can give, need not come by a copy.
        dones[0] = [(0, 4, 6)]
        self.assertEqual(plan(dones, bases), ([(1, 0)], [
            (3, 0, [(0, 7, 9)]), (0, 1, [(0, 4, 6)]), (3, 1, [(0, 7, 9)]), (3, 2, [(0, 7, 9)])]))

    def test_what_is_held_and_can_be_given_is_not_among_the_ungivable(self):
        # House 1 holds all that can't be given by house 2, but can give it, so no copy is needed.
        dones, bases = [[], [(0, 1, 4)], [(0, 1, 4)]], [[], [(0, 1, 2)], [(0, 3, 4)]]
        self.assertEqual(plan(dones, bases), ([], [(1, 0, [(0, 3, 4)]), (2, 0, [(0, 1, 2)])]))

    def test_bases_count_as_far_as_the_house_holds_them(self):
        # House 1 tells as ungivable what it doesn't hold: it can't bring it.
        dones, bases = [[], [(0, 1, 2)], [(0, 1, 4)]], [[], [(0, 1, 9)], [(0, 1, 4), (7, 1, 1)]]
        self.assertEqual(plan(dones, bases), ([(2, 0), (2, 1)], []))
        self.assertEqual(plan([[(0, 1, 2)], []], [[(1, 1, 9)], [(0, 1, 2)]]), ([], [(0, 1, [(0, 1, 2)])]))

    def test_nobody_can_bring_it(self):
        dones, bases = [[], [(0, 1, 2)], [(0, 3, 4)]], [[], [(0, 1, 2)], [(0, 3, 4)]]
        refusal(NotYet, plan, dones, bases)
        # One house that gave up both can bring it.
        self.assertEqual(plan(dones + [[(0, 1, 4)]], bases + [[(0, 1, 4)]]), ([(3, 0), (2, 1), (1, 2)], []))
        # One that holds both, but of one part can give it, brings the rest.
        self.assertEqual(plan(dones + [[(0, 1, 4)]], bases + [[(0, 1, 2)]]),
                         ([(1, 0), (1, 2)], [(3, 0, [(0, 3, 4)]), (3, 1, [(0, 3, 4)])]))

    def test_of_all_houses_and_numbers(self):
        dones = [[(0, 1, TOP), (7, TOP, TOP)], [(7, 1, TOP - 1)]]
        self.assertEqual(asked(plan, dones, [[], [(7, 1, 5)]]),
                         ([(1, 0)], [(0, 1, [(0, 1, TOP), (7, TOP, TOP)])]))

    def test_more_than_two_hundred_rows(self):
        dones = [apart(0, 2), apart(1, 2), []]
        self.assertEqual(plan(dones, [[], [], []]), ([], [
            (1, 0, apart(1, 2)), (0, 1, apart(0, 2)), (0, 2, apart(0, 2)), (1, 2, apart(1, 2))]))

    def test_what_is_told_may_be_changed(self):
        dones, bases = [[(0, 1, 3)], [], [], [(1, 1, 1)]], [[], [], [], [(1, 1, 1)]]
        copies, letters = plan(dones, bases)
        kept = plan(dones, bases)
        for _, _, rows in letters:
            rows.append("changed")
        self.assertEqual([rows.count("changed") for _, _, rows in letters], [1] * len(letters))
        copies.clear()
        letters.clear()
        self.assertEqual((dones, bases), ([[(0, 1, 3)], [], [], [(1, 1, 1)]], [[], [], [], [(1, 1, 1)]]))
        self.assertEqual(plan(dones, bases), kept)


class RefusedTest(unittest.TestCase):
    def test_one_to_six_houses(self):
        refusal(BadCount, plan, [], [])
        for many in (7, 8, 20):
            refusal(BadCount, plan, [[]] * many, [[]] * many)
        for many in range(1, 7):
            self.assertEqual(plan([[]] * many, [[]] * many), ([], []))

    def test_unlike_counts(self):
        for many in range(1, 7):
            for other in range(9):
                if many != other:
                    refusal(BadCount, plan, [[]] * many, [[]] * other)
                    refusal(BadCount, plan, [[]] * other, [[]] * many)

    def test_bad_stretches(self):
        good = [(0, 1, 1)]
        for wrong in WRONG_ROWS:
            self.assertEqual(refusal(BadStretches, plan, [good, good + good + [wrong, ()]], [[], [()]]).at, 2)
            self.assertEqual(refusal(BadStretches, plan, [good, good], [[wrong], []]).at, 0)
            self.assertEqual(refusal(BadStretches, plan, [good, good], [[], good + [wrong]]).at, 1)
        self.assertEqual(refusal(BadStretches, plan, [[], apart(0, 2, count=201)], [[], []]).at, 200)
        self.assertEqual(refusal(BadStretches, plan, [[], []], [[], apart(0, 2, count=201)]).at, 200)

    def test_what_is_handed_in_first_is_refused_first(self):
        self.assertEqual(refusal(BadStretches, plan, [[()], []], [[]]).at, 0)
        refusal(BadCount, plan, [[], []], [[()]])
        # NotYet comes last.
        dones, bases = [[], [(0, 1, 2)], [(0, 3, 4)]], [[], [(0, 1, 2)], [(0, 3, 4)]]
        refusal(BadCount, plan, dones, bases + [[]])
        refusal(BadStretches, plan, dones, bases[:2] + [[(0, 3, 4), ()]])


class ManyPlansTest(unittest.TestCase):
    def test_told_the_slow_way(self):
        chance = random.Random(15)
        seen = {"refused": 0, "copies": 0, "copies and letters": 0, "three letters": 0}
        for turn in range(1800):
            many = 1 + turn % 6
            kinds = [0] if turn % 4 else [0, 1, 7]
            dones = [some_rows(chance, kinds, 4, 0) for _ in range(many)]
            bases = [some_rows(chance, kinds, chance.choice([0, 1, 4, 12]), 0) for _ in range(many)]
            if turn % 3 == 0:
                # Of houses that cut off, some one cut off all that the others did.
                farthest = some_rows(chance, kinds, 3, 0)
                dones = [rows + farthest if chance.randrange(2) else rows for rows in dones]
                bases = [chance.choice([[], farthest]) for _ in range(many)]
            expected = slow_plan(dones, bases)
            if expected is None:
                refusal(NotYet, plan, dones, bases)
                seen["refused"] += 1
                continue
            copies, letters = asked(plan, dones, bases)
            self.assertEqual((copies, letters), expected)
            seen["copies"] += bool(copies)
            seen["copies and letters"] += bool(copies and letters)
            seen["three letters"] += any(sum(letter[1] == taker for letter in letters) > 2 for taker in range(many))
        self.assertGreater(min(seen.values()), 50, seen)


class CarriedOutTest(unittest.TestCase):
    """A plan of houses, carried out, brings each all that some house holds."""

    def work(self, chance, some, deaf):
        """Do, seal, send and cut; some houses take nothing, so they must be brought up by copies."""
        for _ in range(90):
            house, other = chance.sample(some, 2)
            sort = chance.randrange(12)
            if sort < 4:
                house.do("add", chance.randrange(6), 1)
            elif sort < 6:
                house.seal()
            elif sort < 11 and other.number() not in deaf:
                send(house, other)
            elif closing(house):
                cut(house, *chance.choice(closing(house)))

    def test_carried_out(self):
        seen = {"copies": 0, "letters": 0}
        for turn in range(120):
            chance = random.Random(turn)
            some = houses(2 + turn % 5)
            self.work(chance, some, [[], [0], [0, 1]][turn % 3])
            copies, letters = plan([house.done() for house in some], [house.cut_off() for house in some])
            brought = [(to, copy_of(some[giver])) for giver, to in copies]
            sent = [(to, some[giver].gives(rows), rows) for giver, to, rows in letters]
            for to, copied in brought:
                renew(some[to], copied)
            for to, deeds, rows in sent:
                # Each deed is given, and none was held.
                self.assertEqual(told(some[to].take(deeds)), rows)
            everything = told(set().union(*[spread(house.done()) for house in some]))
            self.assertEqual([house.done() for house in some], [everything] * len(some))
            self.assertEqual(len({tuple(house.worths()) for house in some}), 1)
            self.assertEqual(plan([house.done() for house in some], [EVERYTHING] * len(some)), ([], []))
            seen["copies"] += bool(copies)
            seen["letters"] += bool(letters)
        self.assertGreater(min(seen.values()), 20, seen)


if __name__ == "__main__":
    unittest.main()
