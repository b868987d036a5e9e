"""Promise 16: events, and what each tells."""

import copy
import random
import unittest

from byhand import ByHand
from doneranges.errors import BadEvent, NoHouse
from doneranges.houses import House
from doneranges.worlds import played
from helpers import TOP, refusal
from housing import state


def asked(many, events):
    """What played tells; it must leave what it is handed, and tell the same again, all of it in new lists."""
    ahead = copy.deepcopy(events)
    told, houses = played(many, events)
    kept = copy.deepcopy(told), [state(house) for house in houses]
    for answer in told:
        if isinstance(answer, list):
            answer.append("changed")
            answer.reverse()
    told.append("changed")
    # What was told is no part of the houses.
    assert [state(house) for house in houses] == kept[1]
    houses[0].take([(0, 999, 999, ("bye",))])
    houses.append("changed")
    assert events == ahead, "what was handed in was changed"
    again = played(many, events)
    assert again.__class__ is tuple and [part.__class__ for part in again] == [list, list]
    assert (again[0], [state(house) for house in again[1]]) == kept, "a later answer is another one"
    return again


def told_by(many, events):
    """What the events tell."""
    return asked(many, events)[0]


class OrdinaryTest(unittest.TestCase):
    def test_no_events(self):
        for many in range(2, 7):
            told, houses = asked(many, [])
            self.assertEqual(told, [])
            self.assertEqual([state(house) for house in houses], [state(House(me, many)) for me in range(many)])

    def test_deeds(self):
        told, houses = asked(2, [("put", 0, 3, 7), ("add", 1, 5, -TOP), ("add", 0, 3, 1), ("back", 0, 0, 1),
                                 ("seal", 0), ("bye", 0), ("seal", 1)])
        self.assertEqual(told, [
            (0, 1, 1, ("put", 3, 7)), (1, 1, 1, ("add", 5, -TOP)), (0, 2, 2, ("add", 3, 1)), (0, 3, 3, ("back", 0, 1)),
            (0, 4, 4, ("seal", ((0, 1, 3),))), (0, 5, 5, ("bye",)), (1, 2, 2, ("seal", ((1, 1, 1),)))])
        self.assertEqual([house.worths() for house in houses], [[0, 0, 0, 1, 0, 0], [0, 0, 0, 0, 0, -TOP]])
        self.assertEqual([(house.number(), house.count()) for house in houses], [(0, 2), (1, 2)])
        self.assertTrue(all(isinstance(house, House) for house in houses))

    def test_send_and_take(self):
        told, houses = asked(3, [
            ("put", 0, 0, 1), ("send", 0, 1), ("put", 0, 0, 2), ("send", 0, 1), ("take", 1, 1), ("take", 1, 0),
            ("send", 0, 1), ("take", 2, 0), ("add", 2, 0, 5), ("send", 2, 0), ("take", 0, 3)])
        self.assertEqual(told, [
            (0, 1, 1, ("put", 0, 1)), [(0, 1)], (0, 2, 2, ("put", 0, 2)), [(0, 1), (0, 2)], [(0, 1), (0, 2)], [],
            [], [(0, 1)], (2, 1, 2, ("add", 0, 5)), [(2, 1)], [(2, 1)]])
        self.assertEqual([house.worths()[0] for house in houses], [7, 2, 6])

    def test_a_letter_is_of_the_time_when_it_was_sent(self):
        told = told_by(2, [("put", 0, 0, 1), ("send", 0, 1), ("put", 0, 0, 2), ("take", 1, 0), ("take", 1, 0)])
        self.assertEqual(told[3:], [[(0, 1)], []])

    def test_a_letter_has_its_deeds_by_their_stamps(self):
        told = told_by(3, [("put", 2, 0, 1), ("put", 1, 0, 1), ("put", 0, 0, 1), ("put", 1, 0, 2), ("send", 1, 0),
                           ("take", 0, 0), ("send", 2, 0), ("take", 0, 1), ("send", 0, 1), ("send", 0, 2)])
        self.assertEqual(told[4:], [[(1, 1), (1, 2)], [(1, 1), (1, 2)], [(2, 1)], [(2, 1)], [(0, 1), (2, 1)],
                                    [(0, 1), (1, 1), (1, 2)]])

    def test_a_house_sends_to_itself_and_takes_its_own(self):
        self.assertEqual(told_by(2, [("put", 0, 0, 1), ("send", 0, 0), ("send", 0, 1), ("take", 0, 1), ("take", 0, 0)]),
                         [(0, 1, 1, ("put", 0, 1)), [], [(0, 1)], [], []])

    def test_cut_copy_and_renew(self):
        told, houses = asked(2, [
            ("put", 0, 0, 5), ("send", 0, 1), ("take", 1, 0), ("seal", 1), ("send", 1, 0), ("take", 0, 1),
            ("cut", 0, 1, 1), ("add", 0, 0, 2), ("cut", 0, 1, 1), ("copy", 0), ("copy", 1), ("send", 0, 1),
            ("renew", 1, 0), ("renew", 1, 0), ("renew", 0, 1), ("cut", 1, 1, 1), ("copy", 1)])
        self.assertEqual(told[6:], [
            "not yet", (0, 2, 3, ("add", 0, 2)), [(0, 1, 1), (1, 1, 1)], 0, 1, [(0, 2)], [(0, 2, 2)], [], [], "none",
            2])
        self.assertEqual([house.cut_off() for house in houses], [[(0, 1, 1), (1, 1, 1)]] * 2)
        self.assertEqual([house.worths()[0] for house in houses], [7, 7])

    def test_what_was_cut_off_is_not_sent(self):
        told = told_by(3, [
            ("put", 0, 0, 5), ("seal", 0), ("bye", 1), ("bye", 2), ("send", 1, 0), ("send", 2, 0), ("take", 0, 0),
            ("take", 0, 1), ("cut", 0, 0, 2), ("add", 0, 0, 1), ("send", 0, 1), ("take", 1, 2), ("copy", 0),
            ("renew", 1, 0), ("send", 1, 2), ("renew", 2, 0)])
        self.assertEqual(told[8:], [[(0, 1, 2), (1, 1, 1), (2, 1, 1)], (0, 3, 3, ("add", 0, 1)), [(0, 3)], [(0, 3)], 0,
                                    [(0, 1, 2), (2, 1, 1)], [(0, 3)], [(0, 1, 3), (1, 1, 1)]])

    def test_a_copy_is_of_the_time_when_it_was_made(self):
        told = told_by(2, [("put", 0, 0, 1), ("copy", 0), ("put", 0, 0, 2), ("copy", 0), ("renew", 1, 0),
                           ("renew", 1, 1), ("renew", 0, 0)])
        self.assertEqual(told[1:], [0, (0, 2, 2, ("put", 0, 2)), 1, [(0, 1, 1)], [(0, 2, 2)], []])

    def test_six_houses(self):
        events = [("put", house, house, house + 1) for house in range(6)] + [("send", house, 0) for house in range(6)]
        told, houses = asked(6, events + [("take", 0, letter) for letter in range(6)])
        self.assertEqual(told[6:], [[]] + [[(house, 1)] for house in range(1, 6)] +
                         [[]] + [[(house, 1)] for house in range(1, 6)])
        self.assertEqual(houses[0].worths(), [1, 2, 3, 4, 5, 6])


class RefusedWordsTest(unittest.TestCase):
    """What is refused of a house tells a word, and the houses stay as they were."""

    def told(self, many, ahead, event, word):
        before = [state(house) for house in played(many, ahead)[1]]
        told, houses = asked(many, ahead + [event])
        self.assertEqual(told[-1], word, event)
        self.assertEqual([state(house) for house in houses], before)

    def test_bad(self):
        for word in ("put", "add"):
            for key, worth in [(-1, 0), (6, 0), (TOP, 0), (0, TOP + 1), (5, -TOP - 1), (6, TOP + 1)]:
                self.told(2, [("put", 1, 0, 1)], (word, 1, key, worth), "bad")
                # What is handed in is refused first.
                self.told(2, [("bye", 1)], (word, 1, key, worth), "bad")

    def test_none_behind_a_bye(self):
        for event in [("put", 1, 0, 1), ("add", 1, 5, -1), ("back", 1, 1, 1), ("seal", 1), ("bye", 1)]:
            self.told(2, [("put", 1, 0, 1), ("bye", 1)], event, "none")

    def test_none_of_back(self):
        ahead = [("put", 0, 0, 1), ("seal", 0), ("put", 0, 0, 1), ("put", 1, 0, 2)]
        for name in [(0, 1), (0, 2), (0, 4), (1, 1), (0, 0), (0, -1), (2, 1), (7, 1), (8, 1), (-1, 1), (TOP, TOP + 1)]:
            self.told(2, ahead, ("back", 0) + name, "none")

    def test_none_of_cut(self):
        ahead = [("put", 0, 0, 1), ("seal", 0), ("seal", 1)]
        for name in [(0, 1), (0, 3), (1, 1), (0, 0), (2, 1), (7, 1), (8, 1), (-1, 2), (TOP, TOP + 1)]:
            self.told(2, ahead, ("cut", 0) + name, "none")

    def test_not_yet(self):
        # Unheard, then open.
        self.told(2, [("put", 0, 0, 1), ("seal", 0)], ("cut", 0, 0, 2), "not yet")
        self.told(2, [("put", 1, 0, 1), ("put", 0, 0, 1), ("seal", 0), ("put", 1, 0, 1), ("send", 1, 0), ("take", 0, 0)],
                  ("cut", 0, 0, 2), "not yet")


class BadEventTest(unittest.TestCase):
    AHEAD = [("put", 0, 0, 1), ("send", 0, 1), ("copy", 1)]
    WRONG = [
        (), ("put",), ("put", 0), ("put", 0, 1), ("put", 0, 0, 1, 1), ("add", 0, 1), ("add", 0, 0, 1, 1),
        ("back", 0), ("back", 0, 0), ("back", 0, 0, 1, 1), ("seal",), ("seal", 0, 0), ("bye",), ("bye", 0, 0),
        ("send",), ("send", 0), ("send", 0, 1, 1), ("take",), ("take", 0), ("take", 0, 0, 0),
        ("cut", 0), ("cut", 0, 0), ("cut", 0, 0, 1, 1), ("copy",), ("copy", 0, 0), ("renew",), ("renew", 0),
        ("renew", 0, 0, 0),
        ("Put", 0, 0, 1), ("", 0), ("do", 0, 0, 1), ("house", 0), ("any", 0), (0, 0, 1), (0,), (None,), (("seal",), 0),
        ["seal", 0], "seal", None, 0,
        ("put", 2, 0, 1), ("put", -1, 0, 1), ("add", 2, 0, 1), ("back", 2, 0, 1), ("back", -1, 0, 1), ("seal", 2),
        ("seal", -1), ("bye", 2), ("bye", TOP), ("send", 2, 0), ("send", 0, 2), ("send", 0, -1), ("send", -1, 0),
        ("take", 2, 0), ("take", -1, 0), ("cut", 2, 0, 1), ("cut", -1, 0, 1), ("copy", 2), ("copy", -1),
        ("renew", 2, 0), ("renew", -1, 0),
        ("take", 0, 1), ("take", 0, -1), ("take", 0, TOP), ("renew", 0, 1), ("renew", 0, -1), ("renew", 0, TOP),
        # A house that there isn't is refused ahead of what its house would refuse.
        ("put", 2, 9, 1), ("put", "0", 0, 1), ("put", None, 0, 1), ("put", True, 0, 1), ("take", 0, "0"),
    ]

    def test_each_way(self):
        for wrong in self.WRONG:
            self.assertEqual(refusal(BadEvent, played, 2, self.AHEAD + [wrong]).at, 3, wrong)
            self.assertEqual(refusal(BadEvent, played, 2, self.AHEAD + [("seal", 0), wrong, ()]).at, 4, wrong)

    def test_the_first_event(self):
        for wrong in self.WRONG + [("take", 0, 0), ("renew", 0, 0)]:
            self.assertEqual(refusal(BadEvent, played, 2, [wrong]).at, 0)
            self.assertEqual(refusal(BadEvent, played, 2, [wrong] + self.AHEAD + [()]).at, 0)

    def test_a_letter_or_a_copy_that_comes_later(self):
        self.assertEqual(refusal(BadEvent, played, 2, [("take", 1, 0), ("send", 0, 1)]).at, 0)
        self.assertEqual(refusal(BadEvent, played, 2, [("copy", 0), ("renew", 1, 1), ("copy", 0)]).at, 1)
        # Letters and copies have numbers of their own.
        self.assertEqual(refusal(BadEvent, played, 2, [("copy", 0), ("take", 1, 0)]).at, 1)
        self.assertEqual(refusal(BadEvent, played, 2, [("send", 0, 1), ("renew", 1, 0)]).at, 1)

    def test_what_was_refused_of_a_house_is_an_event(self):
        told = told_by(2, [("put", 0, 9, 1), ("back", 0, 9, 9), ("cut", 1, 9, 9), ("seal", 0), ("cut", 0, 0, 1)])
        self.assertEqual(told, ["bad", "none", "none", (0, 1, 1, ("seal", ())), "not yet"])

    def test_which_houses_there_are(self):
        for many in range(2, 7):
            self.assertEqual(told_by(many, [("seal", many - 1)]), [(many - 1, 1, 1, ("seal", ()))])
            for beyond in (many, 6, 7, 8):
                self.assertEqual(refusal(BadEvent, played, many, [("seal", 0), ("seal", beyond)]).at, 1)

    def test_three_hundred_events_and_more(self):
        events = [("add", turn % 2, 0, 1) for turn in range(300)]
        told, houses = asked(2, events)
        self.assertEqual((len(told), [house.worths()[0] for house in houses]), (300, [150, 150]))
        for behind in [("add", 0, 0, 1), ("add", 9, 0, 1), ()]:
            self.assertEqual(refusal(BadEvent, played, 2, events + [behind]).at, 300)
            self.assertEqual(refusal(BadEvent, played, 2, events + [behind] * 50).at, 300)
        # The first one that is none.
        self.assertEqual(refusal(BadEvent, played, 2, events[:299] + [(), ("seal", 0)]).at, 299)
        self.assertEqual(refusal(BadEvent, played, 2, events[:7] + [()] + events).at, 7)

    def test_no_house(self):
        for many in (-TOP, -1, 0, 1, 7, 8, TOP):
            refusal(NoHouse, played, many, [])
            refusal(NoHouse, played, many, [()])
            refusal(NoHouse, played, many, [("seal", 0)] * 301)


class ManyEventsTest(unittest.TestCase):
    def test_told_by_hand(self):
        seen = {}
        for turn in range(60):
            chance = random.Random(turn)
            many = 2 + turn % 5
            world, events, answers = ByHand(many), [], []
            for _ in range(chance.choice([20, 150, 300])):
                events.append(world.some_event(chance))
                answers.append(world.play(events[-1]))
            told, houses = asked(many, events)
            self.assertEqual(told, answers)
            self.assertEqual([state(house) for house in houses], [state(house) for house in world.houses])
            for event, answer in zip(events, answers):
                sort = (event[0], answer if isinstance(answer, str) else answer not in ([], "changed"))
                seen[sort] = seen.get(sort, 0) + 1
        for sort in [("put", True), ("put", "bad"), ("put", "none"), ("add", True), ("back", True), ("back", "none"),
                     ("seal", True), ("seal", "none"), ("bye", True), ("send", True), ("send", False), ("take", True),
                     ("take", False), ("cut", True), ("cut", "none"), ("cut", "not yet"), ("copy", True),
                     ("renew", True), ("renew", False)]:
            self.assertGreater(seen.get(sort, 0), 9, (sort, seen))


if __name__ == "__main__":
    unittest.main()
