"""What the document says of SIGHTS, and from which of them a wrong one comes, by looking at all short ones.

The tests lay the functions beside it; DOINGS are those of PlainGroup.
"""

from itertools import product as all_rows

from plain_books import plain_stands, plain_text
from plain_groups import PlainGroup
from plain_search import then


def lies(one, other):
    """Whether a SIGHT lies in another one: some of its MARKS are left out."""
    if one[:2] != other[:2]:
        return False
    rest = iter(other[2])
    return all([mark in rest for mark in one[2]])


class PlainSights:
    def __init__(self, book, machine):
        self.book, self.group = book, PlainGroup(machine)
        self.letters = range(self.group.letters + 1)
        one, (flag, hue) = self.group.one, book[2]
        self.begin = (flag, one, (hue, one))
        self.marks = [(hue, x) for hue in range(len(book[1])) for x in self.group.all]

    def behind(self, history):
        flag, hues = plain_stands(self.book, history)[-1]
        text = plain_text(history)
        marks = [(hue, self.group.read(text[:place])) for place, hue in enumerate(hues)]
        return flag, self.group.read(text), tuple(marks)

    def turned(self, sight, number, letter):
        flag, whole, marks = sight
        hue, x = marks[number]
        after, own, left, right = self.book[3][flag][hue][letter]
        d = self.group.turn(x, self.book[1][hue], letter)
        put = [(left[g], y) for g, y in marks[:number]] + [(own, x)]
        put += [(right[g], then(d, y)) for g, y in marks[number + 1:]]
        return after, then(d, whole), tuple(put)

    def is_wrong(self, sight):
        return self.book[0][sight[0]] != self.group.is_taken(sight[1])

    def is_begun(self, sight):
        return sight[:2] == self.begin[:2] and all([mark == self.begin[2] for mark in sight[2]])

    def with_marks(self, many):
        """All SIGHTS with so many MARKS."""
        for flag in range(len(self.book[0])):
            for whole in self.group.all:
                for marks in all_rows(self.marks, repeat=many):
                    yield flag, whole, marks

    def turns(self, sight):
        return [self.turned(sight, number, letter) for number in range(len(sight[2])) for letter in self.letters]

    def distances(self, most_marks):
        """For each SIGHT of at most so many MARKS from which a wrong one comes the fewest CHANGES to one."""
        told = {}
        for many in range(most_marks + 1):
            ahead, layer = {}, []
            for sight in self.with_marks(many):
                if self.is_wrong(sight):
                    layer.append(sight)
                for after in self.turns(sight):
                    ahead.setdefault(after, []).append(sight)
            own = {sight: 0 for sight in layer}
            for sight in layer:
                for before in ahead.get(sight, []):
                    if before not in own:
                        own[before] = own[sight] + 1
                        layer.append(before)
            told.update(own)
        return told

    def least(self, told, changes):
        """The set of those from which a wrong one comes by so many CHANGES at most, that have no other in them."""
        near = {sight for sight, own in told.items() if own <= changes}

        def has_another(sight):
            flag, whole, marks = sight
            return any([(flag, whole, marks[:at] + marks[at + 1:]) in near for at in range(len(marks))])
        return {sight for sight in near if not has_another(sight)}

    def is_list(self, rows):
        """Whether SIGHTS, ascending, are a LIST: asked of all SIGHTS with one MARK more than the longest."""
        if any([self.is_begun(own) for own in rows]):
            return False
        if not all([own in rows for own in self.with_marks(0) if self.is_wrong(own)]):
            return False

        def has_one(sight):
            return any([lies(own, sight) for own in rows])
        longest = max([len(own[2]) for own in rows] + [0])
        for many in range(longest + 2):
            for sight in self.with_marks(many):
                if not has_one(sight) and any([has_one(after) for after in self.turns(sight)]):
                    return False
        return True

    def triples_from(self, triple, other):
        """The triples to which CHANGES at the MARK of the first triple turn it and the other one."""
        flag, whole, x = triple
        found = []
        for letter in self.letters:
            after, m, (ahead, own) = self.turned((flag, whole, (other[2], x)), 1, letter)
            behind = self.turned((flag, whole, (x, other[2])), 0, letter)[2][1]
            found += [(after, m, own), (after, m, ahead), (after, m, behind)]
        return found

    def table(self):
        """The least set with how the BOOK begins that is closed, wrong ones in it or not."""
        found = {self.begin}
        while True:
            more = set(found)
            for one in found:
                for other in found:
                    if one[:2] == other[:2]:
                        more |= set(self.triples_from(one, other))
            if more == found:
                return tuple(sorted(found))
            found = more

    def is_table(self, rows):
        if self.begin not in rows or any([self.is_wrong(own) for own in rows]):
            return False
        return all([
            own in rows for one in rows for other in rows if one[:2] == other[:2]
            for own in self.triples_from(one, other)
        ])
