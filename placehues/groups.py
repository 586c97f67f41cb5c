"""The DOINGS by a group's MACHINE, told by numbers, with their opposites, and how they commute."""

from placehues.doings import fit_doing, leads_apart
from placehues.errors import NoPlace, Unfit
from placehues.products import Products


class Group(Products):
    """The DOINGS by a group's MACHINE, numbered 0, 1, .. as they ascend; so ONE is 0.

    TooMuch() if there are more than 48, then Unfit() if the MACHINE is no group's.
    """

    def __init__(self, machine):
        Products.__init__(self, machine)
        if not leads_apart(self.small):
            raise Unfit()
        self.opposites = self.all_opposites()

    def all_opposites(self):
        """The list with for each DOING its opposite."""
        opposites = list(range(len(self.doings)))
        for number, products in enumerate(self.behind):
            opposites[products.index(0)] = number
        return opposites

    def fit(self, one):
        """The number of a DOING; Unfit() if one is none."""
        return self.numbers[fit_doing(self.walk, one)]

    def of_word(self, text):
        """The DOING of what text reads; NoPlace of the first letter that the MACHINE has not."""
        one = 0
        for letter in text:
            if letter >= len(self.letters):
                raise NoPlace(letter)
            one = self.behind[self.letters[letter]][one]
        return one

    def word_from(self, one, other):
        """Of the shortest WORDS that lead on from the DOING one to other, the least."""
        return self.walk.word_to(self.walk.numbers[self.doings[self.times(self.opposites[one], other)]])

    def cross(self, one, other):
        """The cross of one and other."""
        back = self.times(self.opposites[one], self.opposites[other])
        return self.times(back, self.times(one, other))

    def turn(self, one, old, new):
        """The turn of the letter old to new behind one, 0 for nothing."""
        put = self.times(one, self.letters[new])
        return self.times(put, self.opposites[self.times(one, self.letters[old])])

    def rise_over(self, inner):
        """The RISE next to inner, which is one: all whose crosses with each DOING are of inner."""
        # what commutes with letters but for inner commutes with all WORDS but for inner
        return tuple([
            one for one in range(len(self.doings))
            if all([self.cross(letter, one) in inner for letter in self.letters])
        ])

    def centre(self):
        """The CENTRE."""
        return self.rise_over((0,))

    def is_central(self, one):
        """Whether one is of the CENTRE."""
        return all([self.times(one, letter) == self.times(letter, one) for letter in self.letters])

    def rises(self):
        """The list of the RISES up to the first that is like the next one."""
        found = [(0,)]
        after = self.rise_over(found[-1])
        while after != found[-1]:
            found.append(after)
            after = self.rise_over(after)
        return found

    def class_of(self):
        """The class, or None."""
        found = self.rises()
        return len(found) - 1 if len(found[-1]) == len(self.doings) else None

    def lots(self):
        """The list, ascending, of the LOTS."""
        return self.lots_by(self.centre())

    def lots_by(self, inner):
        """The list, ascending, of the sets of all x . z, x a DOING, z of inner, which is a RISE."""
        found, seen = [], {}
        for one in range(len(self.doings)):
            if one not in seen:
                lot = tuple(sorted([self.times(one, own) for own in inner]))
                seen.update({own: True for own in lot})
                found.append(lot)
        return found


def lot_places(lots):
    """For each DOING the place of the one of lots that it lies in."""
    return {one: place for place, lot in enumerate(lots) for one in lot}
