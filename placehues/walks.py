"""Going on letter by letter, from the shortest WORDS to longer ones."""


class Walk:
    """What WORDS come to from a start, numbered 0, 1, .. as it is first come to.

    WORDS are tried from the shortest on, those of one length ascending. The
    caller tells, for what is here, to what the letters 1, 2, .. lead it.
    """

    def __init__(self, start):
        self.found = [start]
        self.rows = []
        self.numbers = {start: 0}
        self.ways = [None]

    def is_done(self):
        """Whether it is told for all that was found to what letters lead it."""
        return len(self.rows) == len(self.found)

    def here(self):
        """The first of all found for which that is not told yet."""
        return self.found[len(self.rows)]

    def go_on(self, leads):
        """Letters lead what is here to leads, in their order; then the next one is here."""
        row = []
        for letter, value in enumerate(leads, start=1):
            if value not in self.numbers:
                self.numbers[value] = len(self.found)
                self.found.append(value)
                self.ways.append((len(self.rows), letter))
            row.append(self.numbers[value])
        self.rows.append(tuple(row))

    def word_to(self, number):
        """Of the shortest WORDS that lead to what has this number, the least."""
        backwards = []
        while self.ways[number] is not None:
            number, letter = self.ways[number]
            backwards.append(letter)
        return tuple(backwards[::-1])

    def word_here(self):
        """Of the shortest WORDS that lead to what is here, the least."""
        return self.word_to(len(self.rows))
