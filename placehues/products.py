"""The DOINGS by a MACHINE, told by numbers, so that they are quickly put one behind the other."""

from placehues.doings import letter_doings, product, walk_doings
from placehues.machines import least


class Products:
    """The DOINGS by a MACHINE, numbered 0, 1, .. as they ascend. TooMuch() if there are more than 48."""

    def __init__(self, machine):
        self.small = least(machine)
        self.walk = walk_doings(self.small)
        self.doings = tuple(sorted(self.walk.found))
        self.numbers = {one: number for number, one in enumerate(self.doings)}
        self.one = self.numbers[self.walk.found[0]]
        self.letters = [self.one] + [self.numbers[own] for own in letter_doings(self.small)]
        self.behind = self.all_behind()

    def all_behind(self):
        """The list with for each DOING that of all products with it behind: x . y is at y, and there at x."""
        by_letter = [self.all_ahead(self.doings[number]) for number in self.letters]
        behind = [list(range(len(self.doings)))] * len(self.doings)
        # a WORD is its last letter behind the rest, and the walk found the rest first
        for (rest, letter), one in list(zip(self.walk.ways, self.walk.found))[1:]:
            ahead = behind[self.numbers[self.walk.found[rest]]]
            behind[self.numbers[one]] = [by_letter[letter][own] for own in ahead]
        return behind

    def all_ahead(self, other):
        """The list with for each DOING its product with other behind it."""
        return [self.numbers[product(one, other)] for one in self.doings]

    def times(self, one, other):
        """one . other"""
        return self.behind[other][one]

    def is_taken(self, one):
        """Whether the MACHINE takes the WORDS with this DOING."""
        return self.doings[one][0] in self.small[1]

    def told(self, numbers):
        """The tuple of the DOINGS with these numbers."""
        return tuple([self.doings[number] for number in numbers])
