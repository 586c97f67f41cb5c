"""The BOOK whose HUES tell of what is read ahead of them in which lot it lies."""

from placehues.errors import TooMuch
from placehues.groups import lot_places

MOST_CELLS = 240


def book_over(group, lots):
    """The BOOK of a Group with the pairs (letter, lot) as HUES; TooMuch() if it would be too great.

    The FLAGS are the DOINGS. lots are those of a RISE that lies in the CENTRE.
    """
    if len(group.doings) * len(group.letters) * len(lots) > MOST_CELLS:
        raise TooMuch()
    every = range(len(group.doings))
    rights = [_right_by(group, lots, one) for one in every]
    answers = tuple([group.is_taken(one) for one in every])
    hues = tuple([letter for letter in range(len(group.letters)) for _ in lots])
    rows = tuple([_rows_of(group, lots, rights, flag) for flag in every])
    return answers, hues, (0, 0), rows


def _right_by(group, lots, one):
    """The map that puts one at the beginning of what is read ahead of each HUE."""
    places = lot_places(lots)
    after = [places[group.times(one, lot[0])] for lot in lots]
    return tuple([letter * len(lots) + place for letter in range(len(group.letters)) for place in after])


def _rows_of(group, lots, rights, flag):
    """The ROWS of this FLAG."""
    still = tuple(range(len(rights[0])))
    lines = []
    for old in range(len(group.letters)):
        for place, lot in enumerate(lots):
            line = []
            for new in range(len(group.letters)):
                turn = group.turn(lot[0], old, new)
                line.append((group.times(turn, flag), new * len(lots) + place, still, rights[turn]))
            lines.append(tuple(line))
    return tuple(lines)


def pairs_over(group, told):
    """The tuple of the pairs (letter, value), ascending, for the values told."""
    return tuple([(letter, value) for letter in range(len(group.letters)) for value in told])
