"""What the document says of MACHINES and DOINGS, found by a plain search over all short WORDS.

Nothing here comes from the package: the tests lay both side by side.
"""

from itertools import product as all_rows


def words_upto(letters, longest):
    """All WORDS of so many letters, the shortest first, those of one length ascending."""
    for length in range(longest + 1):
        yield from all_rows(range(1, letters + 1), repeat=length)


def walk(machine, state, word):
    for letter in word:
        state = machine[0][state][letter - 1]
    return state


def does_take(machine, word):
    return walk(machine, 0, word) in machine[1]


def small_machines(states, letters):
    """All MACHINES of so many STATES and letters."""
    rows = list(all_rows(range(states), repeat=letters))
    sets = [tuple(s for s in range(states) if pick >> s & 1) for pick in range(2 ** states)]
    for steps in all_rows(rows, repeat=states):
        for ends in sets:
            yield (steps, ends)


def some_machines(count, states, letters, seed):
    """So many MACHINES, always the same ones, from a row of numbers that looks mixed."""
    value = seed
    for _ in range(count):
        numbers = []
        for _ in range(states * letters + states):
            value = (value * 1103515245 + 12345) % 2147483648
            numbers.append(value >> 12)
        steps = tuple(tuple(numbers[s * letters + k] % states for k in range(letters)) for s in range(states))
        ends = tuple(s for s in range(states) if numbers[states * letters + s] % 2)
        yield (steps, ends)


def plain_least(machine):
    """The STATES are told apart by what of all short WORDS is taken behind them."""
    many, letters = len(machine[0]), len(machine[0][0])
    tails = list(words_upto(letters, many))

    def told(word):
        state = walk(machine, 0, word)
        return tuple(walk(machine, state, tail) in machine[1] for tail in tails)

    first = {}
    for word in words_upto(letters, many - 1):
        first.setdefault(told(word), word)
    heads = list(first.values())
    number = {key: place for place, key in enumerate(first)}
    steps = tuple(tuple(number[told(head + (k,))] for k in range(1, letters + 1)) for head in heads)
    return steps, tuple(place for place, head in enumerate(heads) if does_take(machine, head))


def plain_parting(one, other):
    longest = len(one[0]) + len(other[0])
    for word in words_upto(len(one[0][0]), longest):
        if does_take(one, word) != does_take(other, word):
            return word
    return None


def plain_both(one, other):
    """The pairs, each with the first WORD that leads to it."""
    letters = len(one[0][0])
    found = [(0, 0)]
    for word in words_upto(letters, len(one[0]) * len(other[0])):
        pair = (walk(one, 0, word), walk(other, 0, word))
        if pair not in found:
            found.append(pair)
    steps = tuple(tuple(found.index((one[0][p][k], other[0][q][k])) for k in range(letters)) for p, q in found)
    return steps, tuple(n for n, (p, q) in enumerate(found) if p in one[1] and q in other[1])


def then(one, other):
    return tuple(other[state] for state in one)


class Plain:
    """All DOINGS by a MACHINE, each with the first WORD that has it."""

    def __init__(self, machine):
        self.machine = machine
        self.letters = len(machine[0][0])
        self.small = plain_least(machine)
        self.words = {}
        length, new = 0, True
        while new:
            new = False
            for word in all_rows(range(1, self.letters + 1), repeat=length):
                own = self.doing(word)
                if own not in self.words:
                    self.words[own] = word
                    new = True
            length += 1
        self.one = tuple(range(len(self.small[0])))

    def doing(self, word):
        return tuple(walk(self.small, state, word) for state in range(len(self.small[0])))

    def doings(self):
        return tuple(sorted(self.words))

    def halting(self):
        return tuple(sorted(own for own in self.words if then(own, own) == own))

    def is_group(self):
        def has_opposite(own):
            return any(then(own, x) == self.one and then(x, own) == self.one for x in self.words)
        return all(has_opposite(own) for own in self.words)

    def commutes(self):
        return all(then(x, y) == then(y, x) for x in self.words for y in self.words)

    def crossed(self):
        ones = [self.doing((k,)) for k in range(1, self.letters + 1)]
        pairs = [(i + 1, j + 1) for i, x in enumerate(ones) for j, y in enumerate(ones) if then(x, y) != then(y, x)]
        return min(pairs) if pairs else None

    def surrounds(self, one, other, pair):
        """Asked of the MACHINE itself, by WORDS with these DOINGS."""
        x, y = pair
        w, v = self.words[one], self.words[other]
        return does_take(self.machine, x + w + y) != does_take(self.machine, x + v + y)

    def surroundings(self, one, other):
        for total in range(2 * len(self.small[0]) + 1):
            words = list(words_upto(self.letters, total))
            pairs = sorted((x, y) for x in words for y in words if len(x) + len(y) == total)
            for pair in pairs:
                if self.surrounds(one, other, pair):
                    return pair
        return None

    def stuck(self):
        for own, word in self.words.items():
            if own != self.one and then(own, own) == own:
                return (word,) + self.surroundings(self.one, own)
        return None


def plain_round(one):
    powers = [tuple(range(len(one)))]
    while True:
        after = then(powers[-1], one)
        if after in powers:
            return powers.index(after), len(powers) - powers.index(after)
        powers.append(after)
