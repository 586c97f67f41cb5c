"""Two BOOKS side by side, as one BOOK."""

from placehues.kinds import as_tuples


class Pairs:
    """Pairs of FLAGS, or of HUES, of two BOOKS, in their order, and the number of each."""

    def __init__(self, pairs):
        self.pairs = pairs
        self.numbers = {pair: number for number, pair in enumerate(pairs)}


def side_by_side(one, other, tells):
    """The BOOK that turns each of two as its own BOOK does, and answers what tells makes of both answers.

    It has a FLAG for each pair of FLAGS, a HUE for each pair of HUES of one
    letter. Both have as many letters.
    """
    answers, hues, begin, rows = as_tuples(one)
    other_answers, other_hues, other_begin, other_rows = as_tuples(other)
    flag_pairs = Pairs([(flag, after) for flag in range(len(answers)) for after in range(len(other_answers))])
    hue_pairs = Pairs([
        (hue, after) for hue, letter in enumerate(hues) for after, own in enumerate(other_hues) if own == letter
    ])
    maps = {}
    told = tuple([tells(answers[flag], other_answers[after]) for flag, after in flag_pairs.pairs])
    start = (flag_pairs.numbers[(begin[0], other_begin[0])], hue_pairs.numbers[(begin[1], other_begin[1])])
    lines = [
        tuple([
            _line_of(rows[flag][hue], other_rows[other_flag][other_hue], (flag_pairs, hue_pairs, maps))
            for hue, other_hue in hue_pairs.pairs
        ])
        for flag, other_flag in flag_pairs.pairs
    ]
    return told, tuple([hues[hue] for hue, _ in hue_pairs.pairs]), start, tuple(lines)


def _line_of(line, other_line, pairs):
    """The ROWS that do what both lines do."""
    flag_pairs, hue_pairs, maps = pairs
    found = []
    for row, other in zip(line, other_line):
        flag, hue = flag_pairs.numbers[(row[0], other[0])], hue_pairs.numbers[(row[1], other[1])]
        found.append((flag, hue, _both(hue_pairs, maps, row[2], other[2]), _both(hue_pairs, maps, row[3], other[3])))
    return tuple(found)


def _both(hue_pairs, maps, one, other):
    """The map of pairs of HUES that does what two maps do; each is made but once."""
    if (one, other) not in maps:
        maps[(one, other)] = tuple([hue_pairs.numbers[(one[hue], other[after])] for hue, after in hue_pairs.pairs])
    return maps[(one, other)]
