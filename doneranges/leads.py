"""Leading: seats that hold sets and remember terms, and leads of these seats."""

from doneranges.counts import check_many, check_one_of
from doneranges.errors import NotYet, TooOld
from doneranges.rows import check_rows, fewest, held_by_many, without

FIRST_TERM = 1


class Seat:
    """What holds a set and remembers a term."""

    def __init__(self):
        self._rows = []
        self._term = 0

    def hold(self, rows):
        """Hold some stretches, too; tell all that the seat holds then."""
        check_rows(rows)
        self._rows = fewest(self._rows + rows)
        return self.holds()

    def ask(self, term):
        """Answer one who would lead in a new term: tell what the seat holds."""
        if term <= self._term:
            raise TooOld("the term is over")
        self._term = term
        return self.holds()

    def keep(self, term, rows):
        """Hold what the leader of a term brings, too; tell all that the seat holds then."""
        if term < max(self._term, FIRST_TERM):
            raise TooOld("the term is over")
        # What is refused must leave the term as it was.
        check_rows(rows)
        self._term = term
        return self.hold(rows)

    def holds(self):
        """Tell the set that the seat holds."""
        return list(self._rows)

    def last_term(self):
        """Tell the term that the seat remembers."""
        return self._term


class Lead:
    """One who would lead two to six seats in one term, and perhaps does."""

    def __init__(self, many):
        check_many(many)
        self._many = many
        # By the seats: what each answered, and all that it told by keep.
        self._answers = {}
        self._told = {}
        self._begun = False

    def heard(self, seat, rows):
        """Take what a seat answered to ask; the last answer counts, none once it leads."""
        check_one_of(seat, self._many)
        check_rows(rows)
        if not self._begun:
            self._answers[seat] = fewest(rows)

    def must(self):
        """Tell all that the answers hold together."""
        if len(self._answers) < self._most():
            raise NotYet("not more than half of the seats answered")
        return held_by_many(list(self._answers.values()), 1)

    def begin(self, rows):
        """Lead, holding a set that has all that it must."""
        check_rows(rows)
        if without(self.must(), rows):
            raise NotYet("the set lacks something that it must have")
        self._begun = True

    def kept(self, seat, rows):
        """Take what a seat told by keep in this term; all that it told counts."""
        check_one_of(seat, self._many)
        check_rows(rows)
        self._check_begun()
        self._told[seat] = fewest(self._told.get(seat, []) + rows)

    def shown(self):
        """Tell what more than half of the seats hold, by what they told."""
        self._check_begun()
        return held_by_many(list(self._told.values()), self._most())

    def leads(self):
        """Tell whether it leads."""
        return self._begun

    def _most(self):
        """Tell the least count that is more than half of the seats."""
        return self._many // 2 + 1

    def _check_begun(self):
        """Refuse what only one who leads can be told or asked."""
        if not self._begun:
            raise NotYet("it doesn't lead")


def wrongly(lead, dones):
    """Tell, of the set of a lead and those of all houses, which houses hold something that the lead doesn't."""
    check_rows(lead)
    for rows in dones:
        check_rows(rows)
    beyond = [(house, without(rows, lead)) for house, rows in enumerate(dones)]
    return [(house, rows) for house, rows in beyond if rows]
