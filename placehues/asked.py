"""The WHOLE BOOK, whose HUES tell all that is read ahead of them, and BOOKS asked at their places."""

from placehues.books import letters_of, stand_behind
from placehues.building import book_over, pairs_over
from placehues.errors import CanNot, NoPlace, Unfit
from placehues.fewest import crowd_twins, history_of_text, hues_of, pairs_of_one_hue, spread_to
from placehues.groups import Group
from placehues.kinds import is_number, is_tuple_of
from placehues.partings import match_letters, surrounded
from placehues.walks import Walk
from placehues.words import has_letters, is_history_of, text_behind


def whole_book(machine):
    """The WHOLE BOOK; TooMuch(), behind Unfit(), if its FLAGS times its HUES are above 240."""
    group = Group(machine)
    return book_over(group, group.lots_by((0,)))


def whole_pairs(machine):
    """The tuple of the pairs (letter, DOING) for which the HUES of the WHOLE BOOK stand."""
    group = Group(machine)
    return pairs_over(group, group.doings)


def whole_marks(machine):
    """The MARKS that hold for the WHOLE BOOK."""
    group = Group(machine)
    every = range(len(group.doings))
    return tuple([group.is_taken(group.times(one, letter)) for letter in group.letters for one in every])


def fewest_asked(machine):
    """How many DOINGS there are."""
    return len(Group(machine).doings)


def read_ahead(machine, stand, x):
    """The DOING of what is read ahead of place x."""
    group = Group(machine)
    _fit_place(x, len(stand[1]))
    return group.doings[_ahead_of(group, stand, x)]


def _fit_place(place, many):
    """Raises NoPlace(place) if place is none of so many."""
    if not 0 <= place < many:
        raise NoPlace(place)


def _ahead_of(group, stand, x):
    """The number of the DOING of what is read ahead of place x, or of all if x is how many there are."""
    flag, hues = stand
    # the HUES ascend by their letter, then by their DOING
    return flag if x == len(hues) else hues[x] % len(group.doings)


def read_between(machine, stand, x, y):
    """The DOING of what is read at the places from x to y - 1."""
    group = Group(machine)
    return group.doings[_between(group, stand, x, y)]


def _between(group, stand, x, y):
    """The number of what read_between returns."""
    many = len(stand[1])
    _fit_place(x, many)
    _fit_place(y, many + 1)
    if y < x:
        raise Unfit()
    return group.times(group.opposites[_ahead_of(group, stand, x)], _ahead_of(group, stand, y))


def takes_between(machine, stand, x, y):
    """Whether machine takes what is read at the places from x to y - 1."""
    group = Group(machine)
    return group.is_taken(_between(group, stand, x, y))


def _group_beside(book, machine, marks):
    """The Group of machine; then Unfit() if book has not as many letters, or marks are not as many as HUES."""
    group = Group(machine)
    match_letters(book, machine)
    if len(marks) != len(book[1]):
        raise Unfit()
    return group


def wrong_places(book, machine, marks, history):
    """The set of the wrong places behind history; Unfit() if it has a letter that machine has not."""
    group = _group_beside(book, machine, marks)
    if not has_letters(history, letters_of(book)):
        raise Unfit()
    return _wrong_places(book, group, marks, history)


def _wrong_places(book, group, marks, history):
    """What wrong_places returns."""
    hues = stand_behind(book, history)[1]
    found, one = [], 0
    for place, letter in enumerate(text_behind(history)):
        one = group.times(one, group.letters[letter])
        if marks[hues[place]] != group.is_taken(one):
            found.append(place)
    return tuple(found)


def is_wrong(book, machine, marks, thing):
    """Whether thing is a pair of a HISTORY of letters of machine and a place that is wrong behind it."""
    group = _group_beside(book, machine, marks)
    if not is_tuple_of(thing, 2) or not is_history_of(thing[0], letters_of(book)):
        return False
    history, place = thing
    return is_number(place) and place in _wrong_places(book, group, marks, history)


def wrong_one(book, machine, marks):
    """A pair of a HISTORY and a place that is wrong behind it; CanNot() if book has HUES enough."""
    group = _group_beside(book, machine, marks)
    many = len(group.doings)
    short = [letter for letter, own in enumerate(hues_of(book)) if own < many]
    if len(short) == 0:
        raise CanNot()
    text, places = spread_to(group, list(range(many)), short[0])
    history = history_of_text(text)
    one, other = pairs_of_one_hue(book, history, places)[0]
    first, second = _papers_for(group, history, text, (one, other))
    return first if first[1] in _wrong_places(book, group, marks, first[0]) else second


def _papers_for(group, history, text, pair):
    """Two pairs of a HISTORY and a place, with one HUE there, just one of which reads up to it what is taken.

    Both places of pair have one HUE behind history, and unlike DOINGS ahead of them.
    """
    starts = [group.of_word(text[:place]) for place in pair]
    if group.is_central(group.times(group.opposites[starts[0]], starts[1])):
        ahead = _word_ahead(group, [group.of_word(text[:place + 1]) for place in pair])
        longer = surrounded(history, ahead, ())
        return [(longer, len(ahead) + place) for place in pair]
    twins = crowd_twins(group, (history, pair[0], pair[1]))
    # a place behind all, never changed, has one HUE in both
    return [((many + 1, changes), many) for many, changes in twins]


def _word_ahead(group, wholes):
    """The least of the shortest WORDS with which ahead of them just one of two DOINGS is taken.

    There is one if just what is of the CENTRE is between them: that commutes
    with all, so a WORD behind them would tell no more than one ahead.
    """
    one, other = group.told(wholes)
    steps, ends = group.small
    walk = Walk(0)
    while (one[walk.here()] in ends) == (other[walk.here()] in ends):
        walk.go_on(steps[walk.here()])
    return walk.word_here()
