"""TINTS that come together, and the fewest CHANGES by which they do."""

from heapq import heappop, heappush

from placehues.errors import TooMuch

MOST_PAIRS = 300
MOST_CHANGES = 400


def tint_of(pairbook, history, low, high):
    """The TINT behind history of the ends of the places from low to high - 1."""
    _, begin, table = pairbook
    last = {place: (number, letter) for number, (place, letter) in enumerate(history[1]) if low <= place < high}
    # each of the stack was changed later than what stands behind it, and knows the TINT back to the one ahead
    stack = []
    for place in sorted(last):
        number, letter = last[place]
        tint = begin
        while len(stack) > 0 and stack[-1][0] < number:
            _, own, ahead = stack.pop()
            tint = table[ahead][own][tint]
        stack.append((number, letter, tint))
    tint = begin
    for _, own, ahead in stack[::-1]:
        tint = table[ahead][own][tint]
    return tint


class Together:
    """The pairs of a TINT of one PAIRBOOK and of one of another that two x, y have behind one HISTORY.

    found has them by the fewest CHANGES that lead there, ascending, each with
    how many they are, and how: None, or the pair to the left of the place that
    was changed last, its letter, and the pair to the right. TooMuch() if they
    are more than most.
    """

    def __init__(self, one, other, most):
        self.table, self.other_table = one[2], other[2]
        self.letters = list(range(len(one[2][0])))
        self.most = most
        start = (one[1], other[1])
        self.cheapest = {start: 0}
        self.ways = {start: None}
        self.queue = [(0, start)]
        self.found = {}
        while len(self.queue) > 0:
            cost, pair = heappop(self.queue)
            if pair not in self.found:
                self.found[pair] = (cost, self.ways[pair])
                for own in list(self.found):
                    self.put_together(pair, own)
                    self.put_together(own, pair)

    def put_together(self, left, right):
        """Tells what comes of a place changed with left ahead of it and right behind it."""
        cost = self.found[left][0] + self.found[right][0] + 1
        for letter in self.letters:
            one = self.table[left[0]][letter][right[0]]
            pair = (one, self.other_table[left[1]][letter][right[1]])
            if pair not in self.cheapest or cost < self.cheapest[pair]:
                self.cheapest[pair] = cost
                self.ways[pair] = (left, letter, right)
                heappush(self.queue, (cost, pair))
                if self.most is not None and len(self.cheapest) > self.most:
                    raise TooMuch()

    def history_to(self, way):
        """A HISTORY behind which the ends have what comes by this way, of found or put together of two of found."""
        letters, waiting = [], [(0, way)]
        while len(waiting) > 0:
            depth, own = waiting.pop()
            if isinstance(own, int):
                letters.append((depth, own))
            elif own is not None:
                left, letter, right = own
                waiting.append((depth + 1, self.found[right][1]))
                waiting.append((depth, letter))
                waiting.append((depth + 1, self.found[left][1]))
        # who stands deeper must be changed earlier
        rows = [(-depth, place, letter) for place, (depth, letter) in enumerate(letters)]
        return max(1, len(letters)), tuple([(place, letter) for _, place, letter in sorted(rows)])

    def parting(self, answers, other_answers):
        """A HISTORY with the fewest CHANGES behind which the answers are unlike; None if there is none."""
        for (one, other), (cost, way) in self.found.items():
            if answers[one] != other_answers[other]:
                if cost > MOST_CHANGES:
                    raise TooMuch()
                return self.history_to(way)
        return None
