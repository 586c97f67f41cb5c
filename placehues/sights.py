"""SIGHTS of a BOOK beside a group, told by numbers, and what CHANGES do to them.

A *spot* is a FLAG and a DOING, as flag * many + doing, a *mark* a HUE and a
DOING likewise, many being how many DOINGS there are. A SIGHT is a spot and a
tuple of marks.
"""

from placehues.kinds import as_tuples


class Step:
    """A CHANGE at a mark that leads from a spot to another one, and how the other marks came of theirs."""

    def __init__(self, spot, mark, letter, after, backs):
        self.spot = spot
        self.mark = mark
        self.letter = letter
        self.after = after
        self.left, self.right, self.back = backs


class Sights:
    """What CHANGES do to the SIGHTS of a BOOK and a Group."""

    def __init__(self, book, group):
        self.answers, self.hues, begin, self.rows = as_tuples(book)
        self.group = group
        self.many = len(group.doings)
        # ONE has the number 0
        self.spot, self.mark = begin[0] * self.many, begin[1] * self.many
        self.turned = {}
        self.backs = {}
        self.into = self.all_into()

    def all_into(self):
        """The list with for each FLAG what leads to it: FLAG, HUE, letter, next HUE and both maps of the ROWS."""
        into = [[] for _ in self.answers]
        for flag, lines in enumerate(self.rows):
            for hue, line in enumerate(lines):
                for letter, (after, own, left, right) in enumerate(line):
                    into[after].append((flag, hue, letter, own, left, right))
        return into

    def is_wrong(self, spot):
        """Whether the answer for a spot is not whether its DOING is taken."""
        flag, one = divmod(spot, self.many)
        return self.answers[flag] != self.group.is_taken(one)

    def wrong_spots(self):
        """The list, ascending, of the wrong spots."""
        return [spot for spot in range(len(self.answers) * self.many) if self.is_wrong(spot)]

    def is_begun(self, spot, marks):
        """Whether the SIGHT of a spot and marks is begun."""
        return spot == self.spot and all([mark == self.mark for mark in marks])

    def turns_at(self, spot, mark):
        """The list with for each letter, 0 first, what a CHANGE at mark does: (spot, mark, left, right, turn)."""
        if (spot, mark) not in self.turned:
            flag, whole = divmod(spot, self.many)
            hue, one = divmod(mark, self.many)
            found = []
            for letter, (after, own, left, right) in enumerate(self.rows[flag][hue]):
                turn = self.group.turn(one, self.hues[hue], letter)
                spot_after = after * self.many + self.group.times(turn, whole)
                found.append((spot_after, own * self.many + one, left, right, turn))
            self.turned[(spot, mark)] = found
        return self.turned[(spot, mark)]

    def put_left(self, left, mark):
        """The mark that a mark ahead of the CHANGE becomes by this map."""
        hue, one = divmod(mark, self.many)
        return left[hue] * self.many + one

    def put_right(self, right, turn, mark):
        """The mark that a mark behind the CHANGE becomes by this map and this turn."""
        hue, one = divmod(mark, self.many)
        return right[hue] * self.many + self.group.times(turn, one)

    def steps_to(self, spot):
        """The list of the Steps that lead to this spot."""
        flag, whole = divmod(spot, self.many)
        steps = []
        for before, hue, letter, own, left, right in self.into[flag]:
            for one in range(self.many):
                back = self.group.turn(one, letter, self.hues[hue])
                ahead = before * self.many + self.group.times(back, whole)
                backs = (self.backs_of(left), self.backs_of(right), back)
                steps.append(Step(ahead, hue * self.many + one, letter, own * self.many + one, backs))
        return steps

    def backs_of(self, hue_map):
        """The list with for each HUE the list of those that a map puts by it."""
        if hue_map not in self.backs:
            found = [[] for _ in hue_map]
            for hue, after in enumerate(hue_map):
                found[after].append(hue)
            self.backs[hue_map] = found
        return self.backs[hue_map]

    def ahead_of(self, step, mark):
        """The list of the marks ahead of the CHANGE of which mark came."""
        hue, one = divmod(mark, self.many)
        return [own * self.many + one for own in step.left[hue]]

    def behind_of(self, step, mark):
        """The list of the marks behind the CHANGE of which mark came."""
        hue, one = divmod(mark, self.many)
        return [own * self.many + self.group.times(step.back, one) for own in step.right[hue]]


def pairs_told(sights, spot, one, other):
    """What CHANGES at the mark one do: the list of the (spot, mark) that come of it and of a mark elsewhere."""
    found = []
    for after, own, left, right, turn in sights.turns_at(spot, one):
        found.append((after, own))
        found.append((after, sights.put_left(left, other)))
        found.append((after, sights.put_right(right, turn, other)))
    return found


def reached(sights, with_wrong):
    """For each spot that comes, by looking at two places at once, its marks as the keys of a dict.

    None if a wrong spot comes and with_wrong is not True.
    """
    found = {sights.spot: {sights.mark: True}}
    if sights.is_wrong(sights.spot) and not with_wrong:
        return None
    waiting = [(sights.spot, sights.mark)]
    while len(waiting) > 0:
        spot, mark = waiting.pop()
        told = []
        for other in found[spot]:
            told.extend(pairs_told(sights, spot, mark, other) + pairs_told(sights, spot, other, mark))
        for after, own in told:
            if after not in found:
                if sights.is_wrong(after) and not with_wrong:
                    return None
                found[after] = {}
            if own not in found[after]:
                found[after][own] = True
                waiting.append((after, own))
    return found
