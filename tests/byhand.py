"""Events played straight on houses, and events that are picked by chance."""

from doneranges.cutting import copy as copy_of
from doneranges.cutting import cut, renew
from doneranges.errors import BadDeed, NoDeed, NotYet
from doneranges.houses import House


class ByHand:
    """Plays events straight on houses."""

    def __init__(self, many):
        self.houses = [House(me, many) for me in range(many)]
        self.letters, self.copies = [], []

    def play(self, event):
        try:
            return self.answer(*event)
        except BadDeed:
            return "bad"
        except NoDeed:
            return "none"
        except NotYet:
            return "not yet"

    def answer(self, word, me, *parts):
        house = self.houses[me]
        if word in ("put", "add"):
            return house.do(word, *parts)
        if word == "back":
            return house.back(*parts)
        if word in ("seal", "bye"):
            return house.seal() if word == "seal" else house.bye()
        if word == "send":
            self.letters.append(house.gives(self.houses[parts[0]].lacks(house.done())))
            return [deed[:2] for deed in self.letters[-1]]
        if word == "take":
            return house.take(self.letters[parts[0]])
        if word == "cut":
            return cut(house, *parts)
        if word == "copy":
            self.copies.append(copy_of(house))
            return len(self.copies) - 1
        return renew(house, self.copies[parts[0]])

    def some_event(self, chance):
        """An event that there is, often one that a house refuses."""
        me, other = chance.randrange(len(self.houses)), chance.randrange(len(self.houses))
        name = chance.choice([deed[:2] for deed in self.houses[me].deeds()] + [(other, chance.randrange(9))])
        seals = [deed[:2] for deed in self.houses[me].deeds() if deed[3][0] == "seal"] + [name]
        return chance.choice(
            [(word, me, chance.randrange(7), chance.randrange(-9, 10)) for word in ("put", "add")] * 2 +
            [("back", me) + name] * 2 + [("seal", me)] * 3 + [("send", me, other)] * 6 +
            [("cut", me) + chance.choice(seals), ("copy", me)] + [("bye", me)] * (chance.randrange(12) == 0) +
            [("take", me, len(self.letters) - 1 - chance.randrange(min(3, len(self.letters))))
             for _ in range(6) if self.letters] +
            [("renew", me, chance.randrange(len(self.copies))) for _ in range(2) if self.copies])
