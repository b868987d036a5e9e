"""Promises 12, 13 and 14: seats, leads, and what a lead may show."""

import copy
import random
import unittest

from doneranges.errors import BadStretches, NoHouse, NotYet, TooOld
from doneranges.leads import Lead, Seat, wrongly
from helpers import TOP, apart, asked, many_sets, refusal, some_rows, spread, told

WRONG_ROWS = [(), (0, 1), (-1, 1, 1), (8, 1, 1), (0, 0, 1), (0, 2, 1), (0, 1, TOP + 1), (0, 1, 1, 1)]


def seat_state(seat):
    return (seat.holds(), seat.last_term())


def answer_or_refusal(call):
    try:
        return call()
    except NotYet:
        return "not yet"


def lead_state(lead):
    """All that a lead tells; each twice, the first changed by whoever got it."""
    for call in (lead.must, lead.shown):
        first = answer_or_refusal(call)
        if isinstance(first, list):
            first.append("changed")
            first.reverse()
    return (answer_or_refusal(lead.must), answer_or_refusal(lead.shown), lead.leads())


def told_by(tells, thing, call, *given):
    """What a call tells that must leave what it is handed; what it told may be changed."""
    ahead = copy.deepcopy(given)
    answer = call(*given)
    assert given == ahead, "what was handed in was changed"
    after = tells(thing)
    kept = copy.deepcopy(answer)
    for rows in given:
        if isinstance(rows, list):
            rows.append("changed")
            rows.reverse()
    if isinstance(answer, list):
        answer.append("changed")
        answer.reverse()
    assert tells(thing) == after, "what was kept is no copy"
    return kept


def refused(tells, thing, error, call, *given):
    """A refusal that must leave what is refused as it was."""
    before = tells(thing)
    why = refusal(error, call, *given)
    assert tells(thing) == before, "a refusal changed something"
    return why


def leading(many, rows=()):
    """A lead of empty answers that leads."""
    lead = Lead(many)
    for seat in range(many):
        lead.heard(seat, [])
    lead.begin(list(rows))
    return lead


class SeatTest(unittest.TestCase):
    def told(self, seat, call, *given):
        return told_by(seat_state, seat, call, *given)

    def refused(self, seat, error, call, *given):
        return refused(seat_state, seat, error, call, *given)

    def test_at_first(self):
        self.assertEqual(seat_state(Seat()), ([], 0))

    def test_hold(self):
        seat = Seat()
        self.assertEqual(self.told(seat, seat.hold, [(1, 4, 6), (0, 2, 3), (1, 1, 3)]), [(0, 2, 3), (1, 1, 6)])
        self.assertEqual(self.told(seat, seat.hold, []), [(0, 2, 3), (1, 1, 6)])
        self.assertEqual(self.told(seat, seat.hold, [(0, 4, 4), (1, 2, 3)]), [(0, 2, 4), (1, 1, 6)])
        self.assertEqual(seat_state(seat), ([(0, 2, 4), (1, 1, 6)], 0))

    def test_ask(self):
        seat = Seat()
        self.assertEqual(self.told(seat, seat.ask, 1), [])
        seat.hold([(0, 1, 2)])
        self.assertEqual(self.told(seat, seat.ask, 2), [(0, 1, 2)])
        self.assertEqual(self.told(seat, seat.ask, 9), [(0, 1, 2)])
        self.assertEqual(seat_state(seat), ([(0, 1, 2)], 9))

    def test_ask_too_old(self):
        seat = Seat()
        for term in (0, -1, -TOP):
            self.refused(seat, TooOld, seat.ask, term)
        seat.ask(5)
        for term in (5, 4, 1, 0, -1):
            self.refused(seat, TooOld, seat.ask, term)
        self.assertEqual(seat.ask(6), [])

    def test_keep(self):
        seat = Seat()
        self.assertEqual(self.told(seat, seat.keep, 1, [(0, 3, 4), (0, 1, 2)]), [(0, 1, 4)])
        self.assertEqual(seat.last_term(), 1)
        # The same term again, then a later one.
        self.assertEqual(self.told(seat, seat.keep, 1, [(2, 5, 5)]), [(0, 1, 4), (2, 5, 5)])
        self.assertEqual(seat.last_term(), 1)
        self.assertEqual(self.told(seat, seat.keep, 4, []), [(0, 1, 4), (2, 5, 5)])
        self.assertEqual(seat.last_term(), 4)
        seat.ask(7)
        self.assertEqual(self.told(seat, seat.keep, 7, [(0, 5, 5)]), [(0, 1, 5), (2, 5, 5)])
        self.assertEqual(seat_state(seat), ([(0, 1, 5), (2, 5, 5)], 7))

    def test_keep_too_old(self):
        seat = Seat()
        # Not less than its own, but less than 1.
        self.refused(seat, TooOld, seat.keep, 0, [(0, 1, 1)])
        self.refused(seat, TooOld, seat.keep, -1, [(0, 1, 1)])
        seat.keep(3, [(0, 1, 1)])
        for term in (2, 1, 0, -3):
            self.refused(seat, TooOld, seat.keep, term, [(0, 2, 2)])
        seat.ask(4)
        self.refused(seat, TooOld, seat.keep, 3, [(0, 2, 2)])
        # A term that was kept in is none to ask for.
        seat.keep(6, [])
        self.refused(seat, TooOld, seat.ask, 6)

    def test_bad_stretches(self):
        seat = Seat()
        seat.keep(2, [(3, 3, 3)])
        for wrong in WRONG_ROWS:
            self.assertEqual(self.refused(seat, BadStretches, seat.hold, [wrong]).at, 0)
            self.assertEqual(self.refused(seat, BadStretches, seat.hold, [(0, 1, 1), wrong, ()]).at, 1)
            for term in (2, 5):
                self.assertEqual(self.refused(seat, BadStretches, seat.keep, term, [(0, 1, 1), wrong, ()]).at, 1)
            # The term is handed in first.
            self.refused(seat, TooOld, seat.keep, 1, [wrong])
        self.assertEqual(self.refused(seat, BadStretches, seat.hold, apart(0, 2, count=201)).at, 200)
        self.assertEqual(self.refused(seat, BadStretches, seat.keep, 9, apart(0, 2, count=201)).at, 200)

    def test_more_than_two_hundred_rows(self):
        seat = Seat()
        seat.hold(apart(0, 2))
        self.assertEqual(self.told(seat, seat.keep, 1, apart(1, 2)), apart(0, 2) + apart(1, 2))
        self.assertEqual(len(seat.ask(2)), 400)

    def test_seats_share_nothing(self):
        one, other = Seat(), Seat()
        one.keep(3, [(0, 1, 1)])
        self.assertEqual(seat_state(other), ([], 0))


class LeadTest(unittest.TestCase):
    def told(self, lead, call, *given):
        return told_by(lead_state, lead, call, *given)

    def refused(self, lead, error, call, *given):
        return refused(lead_state, lead, error, call, *given)

    def test_two_to_six_seats(self):
        for many in (-TOP, -1, 0, 1, 7, 8, TOP):
            refusal(NoHouse, Lead, many)
        for many in range(2, 7):
            self.assertEqual(lead_state(Lead(many)), ("not yet", "not yet", False))

    def test_more_than_half(self):
        for many, least in [(2, 2), (3, 2), (4, 3), (5, 3), (6, 4)]:
            lead = Lead(many)
            for seat in range(least):
                self.refused(lead, NotYet, lead.must)
                self.refused(lead, NotYet, lead.begin, [(0, 1, 9)])
                self.assertIsNone(self.told(lead, lead.heard, many - 1 - seat, [(0, seat + 1, seat + 1)]))
            self.assertEqual(lead.must(), [(0, 1, least)])
            for seat in range(least, many):
                lead.heard(many - 1 - seat, [(0, seat + 1, seat + 1)])
                self.assertEqual(lead.must(), [(0, 1, seat + 1)])
            self.assertEqual((lead.leads(), answer_or_refusal(lead.shown)), (False, "not yet"))

    def test_one_seat_again_is_one_seat(self):
        lead = Lead(4)
        for seat in (0, 1, 0, 1, 1):
            lead.heard(seat, [])
            self.refused(lead, NotYet, lead.must)
        lead.heard(3, [])
        self.assertEqual(lead.must(), [])

    def test_the_last_answer_counts(self):
        lead = Lead(3)
        lead.heard(0, [(0, 1, 5)])
        lead.heard(2, [(1, 2, 2), (0, 4, 6)])
        self.assertEqual(lead.must(), [(0, 1, 6), (1, 2, 2)])
        self.assertIsNone(self.told(lead, lead.heard, 0, [(2, 1, 1)]))
        self.assertEqual(lead.must(), [(0, 4, 6), (1, 2, 2), (2, 1, 1)])
        lead.heard(2, [])
        self.assertEqual(lead.must(), [(2, 1, 1)])

    def test_begin(self):
        lead = Lead(3)
        lead.heard(1, [(0, 1, 3)])
        lead.heard(2, [(1, 1, 1)])
        for rows in ([], [(0, 1, 3)], [(0, 1, 2), (1, 1, 1)], [(0, 2, 9), (1, 1, 9)]):
            self.refused(lead, NotYet, lead.begin, rows)
            self.assertFalse(lead.leads())
        self.assertIsNone(self.told(lead, lead.begin, [(1, 1, 1), (0, 2, 3), (0, 1, 1)]))
        self.assertTrue(lead.leads())
        self.assertEqual(lead_state(lead), ([(0, 1, 3), (1, 1, 1)], [], True))

    def test_begin_with_more(self):
        lead = Lead(2)
        lead.heard(0, [(0, 1, 3)])
        lead.heard(1, [])
        self.assertIsNone(self.told(lead, lead.begin, [(0, 1, 9), (5, 1, 1)]))
        self.assertEqual(lead_state(lead), ([(0, 1, 3)], [], True))

    def test_heard_does_nothing_once_it_leads(self):
        lead = Lead(3)
        lead.heard(0, [(0, 1, 3)])
        lead.heard(1, [])
        lead.begin([(0, 1, 3)])
        before = lead_state(lead)
        for seat in range(3):
            self.assertIsNone(self.told(lead, lead.heard, seat, [(4, 1, 9)]))
            self.assertIsNone(self.told(lead, lead.heard, seat, []))
        self.assertEqual(lead_state(lead), before)

    def test_a_lead_that_has_not_begun(self):
        lead = Lead(2)
        self.refused(lead, NotYet, lead.kept, 0, [(0, 1, 1)])
        self.refused(lead, NotYet, lead.shown)
        lead.heard(0, [])
        lead.heard(1, [])
        self.refused(lead, NotYet, lead.kept, 1, [(0, 1, 1)])
        self.refused(lead, NotYet, lead.shown)
        lead.begin([])
        # Nothing of what was refused counts.
        self.assertEqual(lead.shown(), [])

    def test_shown_by_more_than_half(self):
        for many, least in [(2, 2), (3, 2), (4, 3), (5, 3), (6, 4)]:
            lead = leading(many)
            for count in range(1, many + 1):
                self.assertEqual(lead.shown(), [(0, 1, 5)] if count > least else [])
                self.assertIsNone(self.told(lead, lead.kept, many - count, [(0, 4, 5), (0, 1, 3), (1, count, count)]))
            self.assertEqual(lead.shown(), [(0, 1, 5)])

    def test_shown_of_several_parts(self):
        lead = leading(3, [(0, 1, 9)])
        lead.kept(0, [(0, 1, 4)])
        lead.kept(1, [(0, 3, 6), (7, 1, 1)])
        self.assertEqual(lead.shown(), [(0, 3, 4)])
        lead.kept(2, [(0, 6, 9), (7, 1, 2)])
        # What seats hold beyond the lead is shown, too.
        self.assertEqual(lead.shown(), [(0, 3, 4), (0, 6, 6), (7, 1, 1)])

    def test_all_that_was_told_of_a_seat_counts(self):
        lead = leading(3)
        lead.kept(0, [(0, 1, 2)])
        lead.kept(0, [(0, 5, 5)])
        # One seat, told twice, is one.
        lead.kept(0, [(0, 1, 2)])
        self.assertEqual(lead.shown(), [])
        lead.kept(2, [(0, 2, 5)])
        self.assertEqual(lead.shown(), [(0, 2, 2), (0, 5, 5)])
        lead.kept(2, [])
        lead.kept(0, [(0, 3, 3)])
        self.assertEqual(lead.shown(), [(0, 2, 3), (0, 5, 5)])

    def test_answers_count_nothing_for_what_is_shown(self):
        lead = Lead(2)
        lead.heard(0, [(0, 1, 1)])
        lead.heard(1, [(0, 1, 1)])
        lead.begin([(0, 1, 1)])
        lead.kept(0, [(0, 1, 1)])
        self.assertEqual(lead.shown(), [])

    def test_begin_again(self):
        lead = Lead(2)
        lead.heard(0, [(0, 1, 3)])
        lead.heard(1, [])
        lead.begin([(0, 1, 3)])
        lead.kept(0, [(0, 1, 1)])
        lead.kept(1, [(0, 1, 1)])
        self.refused(lead, NotYet, lead.begin, [(0, 1, 2)])
        self.assertIsNone(self.told(lead, lead.begin, [(0, 1, 4)]))
        self.assertEqual(lead_state(lead), ([(0, 1, 3)], [(0, 1, 1)], True))

    def test_a_seat_that_there_is_not(self):
        for many in range(2, 7):
            for lead in (Lead(many), leading(many)):
                for seat in (-TOP, -1, many, many + 1, 7, TOP):
                    self.refused(lead, NoHouse, lead.heard, seat, [])
                    self.refused(lead, NoHouse, lead.heard, seat, [()])
                    self.refused(lead, NoHouse, lead.kept, seat, [])
                    self.refused(lead, NoHouse, lead.kept, seat, [()])

    def test_bad_stretches(self):
        for lead in (Lead(3), leading(3)):
            for wrong in WRONG_ROWS:
                for rows, at in [([wrong], 0), ([(0, 1, 1), (0, 1, 1), wrong, ()], 2), (apart(1, 2) + [wrong], 200)]:
                    self.assertEqual(self.refused(lead, BadStretches, lead.heard, 2, rows).at, at)
                    # NotYet comes last.
                    self.assertEqual(self.refused(lead, BadStretches, lead.begin, rows).at, at)
                    self.assertEqual(self.refused(lead, BadStretches, lead.kept, 0, rows).at, at)

    def test_leads_share_nothing(self):
        one, other = Lead(2), Lead(2)
        one.heard(0, [])
        one.heard(1, [])
        one.begin([])
        self.assertEqual(lead_state(other), ("not yet", "not yet", False))

    def test_many_sets(self):
        for sets in many_sets(60, 5):
            lead, holding = Lead(5), [spread(rows) for rows in sets]
            for seat, rows in enumerate(sets):
                lead.heard(seat, rows)
            self.assertEqual(lead.must(), told(set().union(*holding)))
            lead.begin(lead.must())
            for seat, rows in enumerate(sets):
                lead.kept(seat, rows[1:])
                lead.kept(seat, rows[:1])
            shown = {one for one in set().union(*holding) if sum(one in held for held in holding) > 2}
            self.assertEqual(lead.shown(), told(shown))


class WronglyTest(unittest.TestCase):
    def test_ordinary(self):
        dones = [[(0, 1, 3)], [(0, 2, 5), (1, 1, 1)], [], [(2, 1, 1), (0, 4, 4), (2, 2, 2)]]
        self.assertEqual(asked(wrongly, [(0, 1, 4)], dones), [(1, [(0, 5, 5), (1, 1, 1)]), (3, [(2, 1, 2)])])
        self.assertEqual(asked(wrongly, [(0, 1, 9), (1, 1, 1), (2, 1, 9)], dones), [])
        self.assertEqual(asked(wrongly, [], dones),
                         [(0, [(0, 1, 3)]), (1, [(0, 2, 5), (1, 1, 1)]), (3, [(0, 4, 4), (2, 1, 2)])])
        self.assertEqual(asked(wrongly, [(0, 1, 1)], []), [])

    def test_inner_lists_may_be_changed(self):
        lead, dones = [(0, 2, 2)], [[(0, 1, 1)], [(0, 1, 1)]]
        first = wrongly(lead, dones)
        first[0][1].append("changed")
        self.assertEqual(first[1], (1, [(0, 1, 1)]))
        self.assertEqual((lead, dones), ([(0, 2, 2)], [[(0, 1, 1)], [(0, 1, 1)]]))
        self.assertEqual(wrongly(lead, dones), [(0, [(0, 1, 1)]), (1, [(0, 1, 1)])])

    def test_bad_stretches(self):
        for wrong in WRONG_ROWS:
            self.assertEqual(refusal(BadStretches, wrongly, [(0, 1, 1), wrong], [[wrong]]).at, 1)
            self.assertEqual(refusal(BadStretches, wrongly, [(0, 1, 1)], [[], [(0, 1, 1), (0, 1, 1), wrong], [()]]).at,
                             2)
        self.assertEqual(refusal(BadStretches, wrongly, apart(0, 2, count=201), []).at, 200)
        self.assertEqual(refusal(BadStretches, wrongly, [], [apart(0, 2, count=201)]).at, 200)

    def test_many_sets(self):
        for lead, *dones in many_sets(60, 6):
            expected = [(house, told(spread(rows) - spread(lead))) for house, rows in enumerate(dones)]
            self.assertEqual(asked(wrongly, lead, dones), [(house, rows) for house, rows in expected if rows])


class LaterLeadsTest(unittest.TestCase):
    """Promise 14: what a lead may show is in what each lead of a later term must hold."""

    def elect(self, chance, seats, term):
        """A lead of a new term that leads, and what it holds; not all seats are asked."""
        many = len(seats)
        lead = Lead(many)
        for seat in chance.sample(range(many), chance.randrange(many // 2 + 1, many + 1)):
            lead.heard(seat, seats[seat].ask(term))
        held = lead.must() + some_rows(chance, [0, 1], 3, 0)
        lead.begin(held)
        return lead, held

    def bring(self, chance, seats, term, lead, held):
        """Bring some seats what a lead holds; those that were asked since refuse it."""
        for seat in chance.sample(range(len(seats)), chance.randrange(len(seats) + 1)):
            try:
                lead.kept(seat, seats[seat].keep(term, held))
            except TooOld:
                continue

    def play(self, chance, many):
        seats, leads = [Seat() for _ in range(many)], []
        for term in range(1, 25):
            leads.append((term,) + self.elect(chance, seats, term))
            # Leads of earlier terms go on, too.
            for _ in range(3):
                self.bring(chance, seats, *chance.choice(leads[-3:]))
        for at, (_, ahead, _) in enumerate(leads):
            for _, later, _ in leads[at + 1:]:
                self.assertLessEqual(spread(ahead.shown()), spread(later.must()))
        return sum(bool(lead.shown()) for _, lead, _ in leads)

    def test_terms_in_turn(self):
        for turn in range(60):
            self.assertGreater(self.play(random.Random(turn), 2 + turn % 5), 2)


if __name__ == "__main__":
    unittest.main()
