"""What the document says of groups' MACHINES, with DOINGS as they are and nothing clever.

Nothing here comes from the package but the least MACHINE, which the tests of machines
lay beside a plain search: the tests lay both side by side.
"""

from itertools import permutations
from itertools import product as all_rows
from math import lcm

from placehues.machines import least
from plain_search import plain_round, then, walk

ODD = (((1,), (0,)), (1,))
SOME, FIRST = (((1,), (1,)), (1,)), (((1, 2), (1, 1), (2, 2)), (1,))
THREE = (((1, 0), (0, 2), (2, 1)), (0,))
SQUARE = (((1, 0), (2, 3), (3, 2), (0, 1)), (0,))
# the same by a quarter turn, another turn that does nothing, and a flip
SQUARE_OF_THREE = (((1, 0, 0), (2, 1, 3), (3, 2, 2), (0, 3, 1)), (0, 1))
# a turn and a flip of eight corners: 16 DOINGS, class 3
OCTAGON = (tuple([((at + 1) % 8, -at % 8) for at in range(8)]), (0,))
# the unit and three square roots of -1, and what is opposite to each: 8 DOINGS, class 2
QUATERNIONS = (((1, 2), (4, 3), (7, 4), (2, 5), (5, 6), (0, 7), (3, 0), (6, 1)), (0,))
RING = (tuple([((at + 1) % 12, (at + 11) % 12, at) for at in range(12)]), (0,))
ALL, NONE = (((0, 0, 0),), (0,)), (((0,),), ())
# even orders of four things: 12 DOINGS, class None
EVEN = (((1, 1), (2, 0), (0, 3), (3, 2)), (0,))
# all orders of four things and a flip: 48 DOINGS
FULL = (tuple([
    (2 * ((place + 1) % 4) + 1 - flip, 2 * {0: 1, 1: 0}.get(place, place) + flip)
    for place in range(4) for flip in (0, 1)
]), (0,))
# all orders of five things: 120 DOINGS, a group's
FIVE = (((1, 1), (2, 0), (3, 2), (4, 3), (0, 4)), (0,))
# as many, with meetings: no group's
BIG = (tuple([((at + 1) % 12, {0: 1, 1: 0}.get(at, at), max(at, 1)) for at in range(12)]), (0, 3))

GROUPS = [
    ODD, THREE, SQUARE, SQUARE_OF_THREE, QUATERNIONS, OCTAGON, RING, ALL, NONE, EVEN,
    (((1,), (2,), (3,), (0,)), (1, 3)), (((1,), (2,), (0,)), (0, 2)), (((0, 1), (1, 0)), (0,)),
    (((1, 2), (0, 3), (3, 0), (2, 1)), (0,)),
]
NO_GROUPS = [SOME, FIRST, (((1, 2), (1, 2), (1, 2)), (1,)), (((1,), (2,), (2,)), (2,)), (((0, 1), (1, 1)), (0,))]


def turning_machines(states, letters):
    """All MACHINES of so many STATES on which each letter turns them about."""
    turns = list(permutations(range(states)))
    for letter_turns in all_rows(turns, repeat=letters):
        steps = tuple([tuple([turn[at] for turn in letter_turns]) for at in range(states)])
        for pick in range(2 ** states):
            yield steps, tuple([at for at in range(states) if pick >> at & 1])


def small_groups():
    """Many small MACHINES of groups, those of GROUPS first."""
    yield from GROUPS
    for states, letters in ((1, 1), (2, 1), (3, 1), (2, 2)):
        yield from turning_machines(states, letters)
    yield from list(turning_machines(3, 2))[::7]
    yield from list(turning_machines(4, 2))[::397]


class PlainGroup:
    """The DOINGS by a group's MACHINE, and how they commute."""

    def __init__(self, machine):
        self.machine = machine
        self.letters = len(machine[0][0])
        self.small = least(machine)
        self.one = self.doing(())
        self.all = self.found()
        self.opposites = {x: y for x in self.all for y in self.all if then(x, y) == self.one}
        self.centre = tuple([z for z in self.all if all(then(x, z) == then(z, x) for x in self.all)])
        self.lots = self.lots_by(self.centre)

    def doing(self, word):
        return tuple([walk(self.small, state, word) for state in range(len(self.small[0]))])

    def found(self):
        """All DOINGS, ascending."""
        own = {self.one}
        while True:
            more = {then(x, self.letter(k)) for x in own for k in range(self.letters + 1)}
            if more == own:
                return tuple(sorted(own))
            own = more

    def letter(self, letter):
        """The DOING for which a letter, or 0, stands."""
        return self.doing((letter,)) if letter else self.one

    def read(self, text):
        return self.doing(tuple([letter for letter in text if letter]))

    def lots_by(self, inner):
        return tuple(sorted({tuple(sorted({then(x, z) for z in inner})) for x in self.all}))

    def lot_of(self, one):
        return [lot for lot in self.lots if one in lot][0]

    def rise(self, number):
        """The RISE at this place, 0 for ONE alone."""
        if number == 0:
            return (self.one,)
        under = self.rise(number - 1)
        return tuple([z for z in self.all if all(self.cross(x, z) in under for x in self.all)])

    def rises(self):
        found = [self.rise(0)]
        while self.rise(len(found)) != found[-1]:
            found.append(self.rise(len(found)))
        return found

    def class_of(self):
        for number in range(7):
            if self.rise(number) == self.all:
                return number
        return None

    def exponent(self):
        return lcm(*[plain_round(one)[1] for one in self.all])

    def cross(self, x, y):
        return then(then(self.opposites[x], self.opposites[y]), then(x, y))

    def twist(self, row):
        own = row[0]
        for other in row[1:]:
            own = self.cross(own, other)
        return own

    def turn(self, x, old, new):
        back = then(self.opposites[self.letter(old)], self.opposites[x])
        return then(then(x, self.letter(new)), back)

    def is_taken(self, one):
        return one[0] in self.small[1]

    def hue_book(self, whole=False):
        """The HUE BOOK, or the WHOLE BOOK, however great, and the pairs for which its HUES stand."""
        lots = self.lots_by((self.one,)) if whole else self.lots
        pairs = sorted([(letter, lot) for letter in range(self.letters + 1) for lot in lots])
        begin = (self.all.index(self.one), pairs.index((0, [lot for lot in lots if self.one in lot][0])))

        def moved(lot, d):
            return [other for other in lots if then(d, lot[0]) in other][0]

        rights = {d: tuple([pairs.index((letter, moved(lot, d))) for letter, lot in pairs]) for d in self.all}

        def row(m, pair, new):
            d = self.turn(pair[1][-1], pair[0], new)
            return self.all.index(then(d, m)), pairs.index((new, pair[1])), tuple(range(len(pairs))), rights[d]

        letters = range(self.letters + 1)
        rows = tuple([tuple([tuple([row(m, pair, new) for new in letters]) for pair in pairs]) for m in self.all])
        answers = tuple([self.is_taken(m) for m in self.all])
        return (answers, tuple([letter for letter, _ in pairs]), begin, rows), tuple(pairs)
