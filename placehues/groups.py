"""The DOINGS by a group's MACHINE, told by numbers, so that they are quickly multiplied."""

from placehues.doings import fit_doing, leads_apart, letter_doings, product, walk_doings
from placehues.errors import NoPlace, Unfit
from placehues.machines import least


class Group:
    """The DOINGS by a group's MACHINE, numbered 0, 1, .. as they ascend; so ONE is 0.

    TooMuch() if there are more than 48, then Unfit() if the MACHINE is no group's.
    """

    def __init__(self, machine):
        self.small = least(machine)
        self.walk = walk_doings(self.small)
        if not leads_apart(self.small):
            raise Unfit()
        self.doings = tuple(sorted(self.walk.found))
        self.numbers = {one: number for number, one in enumerate(self.doings)}
        self.letters = [0] + [self.numbers[one] for one in letter_doings(self.small)]
        self.behind = self.all_behind()
        self.opposites = self.all_opposites()

    def all_behind(self):
        """The list with for each DOING that of all products with it behind: x . y is at y, and there at x."""
        by_letter = [self.all_ahead(self.doings[number]) for number in self.letters]
        behind = [list(range(len(self.doings)))] * len(self.doings)
        # a WORD is its last letter behind the rest, and the walk found the rest first
        for (rest, letter), one in list(zip(self.walk.ways, self.walk.found))[1:]:
            ahead = behind[self.numbers[self.walk.found[rest]]]
            behind[self.numbers[one]] = [by_letter[letter][own] for own in ahead]
        return behind

    def all_ahead(self, other):
        """The list with for each DOING its product with other behind it."""
        return [self.numbers[product(one, other)] for one in self.doings]

    def all_opposites(self):
        """The list with for each DOING its opposite."""
        opposites = list(range(len(self.doings)))
        for number, products in enumerate(self.behind):
            opposites[products.index(0)] = number
        return opposites

    def fit(self, one):
        """The number of a DOING; Unfit() if one is none."""
        return self.numbers[fit_doing(self.walk, one)]

    def told(self, numbers):
        """The tuple of the DOINGS with these numbers."""
        return tuple([self.doings[number] for number in numbers])

    def of_word(self, text):
        """The DOING of what text reads; NoPlace of the first letter that the MACHINE has not."""
        one = 0
        for letter in text:
            if letter >= len(self.letters):
                raise NoPlace(letter)
            one = self.behind[self.letters[letter]][one]
        return one

    def word_from(self, one, other):
        """Of the shortest WORDS that lead on from the DOING one to other, the least."""
        return self.walk.word_to(self.walk.numbers[self.doings[self.times(self.opposites[one], other)]])

    def is_taken(self, one):
        """Whether the MACHINE takes the WORDS with this DOING."""
        return self.doings[one][0] in self.small[1]

    def times(self, one, other):
        """one . other"""
        return self.behind[other][one]

    def cross(self, one, other):
        """The cross of one and other."""
        back = self.times(self.opposites[one], self.opposites[other])
        return self.times(back, self.times(one, other))

    def turn(self, one, old, new):
        """The turn of the letter old to new behind one, 0 for nothing."""
        put = self.times(one, self.letters[new])
        return self.times(put, self.opposites[self.times(one, self.letters[old])])

    def rise_over(self, inner):
        """The RISE next to inner, which is one: all whose crosses with each DOING are of inner."""
        # what commutes with letters but for inner commutes with all WORDS but for inner
        return tuple([
            one for one in range(len(self.doings))
            if all([self.cross(letter, one) in inner for letter in self.letters])
        ])

    def centre(self):
        """The CENTRE."""
        return self.rise_over((0,))

    def is_central(self, one):
        """Whether one is of the CENTRE."""
        return all([self.times(one, letter) == self.times(letter, one) for letter in self.letters])

    def rises(self):
        """The list of the RISES up to the first that is like the next one."""
        found = [(0,)]
        after = self.rise_over(found[-1])
        while after != found[-1]:
            found.append(after)
            after = self.rise_over(after)
        return found

    def class_of(self):
        """The class, or None."""
        found = self.rises()
        return len(found) - 1 if len(found[-1]) == len(self.doings) else None

    def lots(self):
        """The list, ascending, of the LOTS."""
        return self.lots_by(self.centre())

    def lots_by(self, inner):
        """The list, ascending, of the sets of all x . z, x a DOING, z of inner, which is a RISE."""
        found, seen = [], {}
        for one in range(len(self.doings)):
            if one not in seen:
                lot = tuple(sorted([self.times(one, own) for own in inner]))
                seen.update({own: True for own in lot})
                found.append(lot)
        return found


def lot_places(lots):
    """For each DOING the place of the one of lots that it lies in."""
    return {one: place for place, lot in enumerate(lots) for one in lot}
