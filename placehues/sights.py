"""SIGHTS of a BOOK beside a group, told by numbers, and what CHANGES do to them.

A *spot* is a FLAG and a DOING, as flag * many + doing, a *mark* a HUE and a
DOING likewise, many being how many DOINGS there are. A SIGHT is a spot and a
tuple of marks.
"""

from placehues.kinds import as_tuples


class Step:
    """CHANGES that lead from one spot to another one, and put the other marks in one way.

    letters has for each mark at which there is such a CHANGE the letter of one;
    letters_to has, for each mark that it becomes, these alone. left and right
    have for each HUE those that are put by it; back undoes the turn.
    """

    def __init__(self, spot, left, right, back):
        self.spot = spot
        self.left = left
        self.right = right
        self.back = back
        self.letters = {}
        self.letters_to = {}

    def add_change(self, mark, letter, after):
        """Adds a CHANGE at mark, which becomes after."""
        self.letters[mark] = letter
        self.letters_to.setdefault(after, {})[mark] = letter


class Sights:
    """What CHANGES do to the SIGHTS of a BOOK and a Group."""

    def __init__(self, book, group):
        self.answers, self.hues, begin, self.rows = as_tuples(book)
        self.group = group
        self.many = len(group.doings)
        # ONE has the number 0
        self.spot, self.mark = begin[0] * self.many, begin[1] * self.many
        self.turned = {}
        self.map_numbers = {}
        self.backs = []
        self.into = self.all_into()

    def all_into(self):
        """The list with for each FLAG what leads to it: FLAG, HUE, letter, next HUE and the numbers of both maps."""
        into = [[] for _ in self.answers]
        for flag, lines in enumerate(self.rows):
            for hue, line in enumerate(lines):
                for letter, (after, own, left, right) in enumerate(line):
                    into[after].append((flag, hue, letter, own, self.map_number(left), self.map_number(right)))
        return into

    def is_wrong(self, spot):
        """Whether the answer for a spot is not whether its DOING is taken."""
        flag, one = divmod(spot, self.many)
        return self.answers[flag] != self.group.is_taken(one)

    def wrong_spots(self):
        """The list, ascending, of the wrong spots."""
        return [spot for spot in range(len(self.answers) * self.many) if self.is_wrong(spot)]

    def is_begun(self, spot, marks):
        """Whether the SIGHT of a spot and marks is begun."""
        return spot == self.spot and all([mark == self.mark for mark in marks])

    def turns_at(self, spot, mark):
        """The list with for each letter, 0 first, what a CHANGE at mark does: (spot, mark, left, right, turn)."""
        if (spot, mark) not in self.turned:
            flag, whole = divmod(spot, self.many)
            hue, one = divmod(mark, self.many)
            found = []
            for letter, (after, own, left, right) in enumerate(self.rows[flag][hue]):
                turn = self.group.turn(one, self.hues[hue], letter)
                spot_after = after * self.many + self.group.times(turn, whole)
                found.append((spot_after, own * self.many + one, left, right, turn))
            self.turned[(spot, mark)] = found
        return self.turned[(spot, mark)]

    def put_left(self, left, mark):
        """The mark that a mark ahead of the CHANGE becomes by this map."""
        hue, one = divmod(mark, self.many)
        return left[hue] * self.many + one

    def put_right(self, right, turn, mark):
        """The mark that a mark behind the CHANGE becomes by this map and this turn."""
        hue, one = divmod(mark, self.many)
        return right[hue] * self.many + self.group.times(turn, one)

    def map_number(self, hue_map):
        """The number of a map, under which backs has for each HUE the list of those that it puts by this HUE."""
        if hue_map not in self.map_numbers:
            self.map_numbers[hue_map] = len(self.backs)
            found = [[] for _ in hue_map]
            for hue, after in enumerate(hue_map):
                found[after].append(hue)
            self.backs.append(found)
        return self.map_numbers[hue_map]

    def steps_to(self, spot):
        """The list of the Steps that lead to this spot."""
        flag, whole = divmod(spot, self.many)
        steps = {}
        for before, hue, letter, own, left, right in self.into[flag]:
            for one in range(self.many):
                back = self.group.turn(one, letter, self.hues[hue])
                key = (before, left, right, back)
                if key not in steps:
                    ahead = before * self.many + self.group.times(back, whole)
                    steps[key] = Step(ahead, self.backs[left], self.backs[right], back)
                steps[key].add_change(hue * self.many + one, letter, own * self.many + one)
        return list(steps.values())

    def ahead_of(self, step, mark):
        """The list of the marks ahead of the CHANGE of which mark came."""
        hue, one = divmod(mark, self.many)
        return [own * self.many + one for own in step.left[hue]]

    def behind_of(self, step, mark):
        """The list of the marks behind the CHANGE of which mark came."""
        hue, one = divmod(mark, self.many)
        return [own * self.many + self.group.times(step.back, one) for own in step.right[hue]]


def pairs_told(sights, spot, one, other):
    """What CHANGES at the mark one do: the list of the (spot, mark) that come of it and of a mark elsewhere."""
    found = []
    for after, own, left, right, turn in sights.turns_at(spot, one):
        found.append((after, own))
        found.append((after, sights.put_left(left, other)))
        found.append((after, sights.put_right(right, turn, other)))
    return found


def reached(sights, with_wrong):
    """For each spot that comes, by looking at two places at once, its marks as the keys of a dict.

    None if a wrong spot comes and with_wrong is not True.
    """
    found = {sights.spot: {sights.mark: True}}
    if sights.is_wrong(sights.spot) and not with_wrong:
        return None
    waiting = [(sights.spot, sights.mark)]
    while len(waiting) > 0:
        spot, mark = waiting.pop()
        told = []
        for other in found[spot]:
            told.extend(pairs_told(sights, spot, mark, other) + pairs_told(sights, spot, other, mark))
        for after, own in told:
            if after not in found:
                if sights.is_wrong(after) and not with_wrong:
                    return None
                found[after] = {}
            if own not in found[after]:
                found[after][own] = True
                waiting.append((after, own))
    return found
