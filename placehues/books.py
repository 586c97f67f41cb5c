"""BOOKS, and the STANDS to which CHANGES turn them."""

from placehues.errors import CanNot, NoPlace, TooMuch, Unfit
from placehues.kinds import as_tuples, has_numbers_between, has_numbers_from, is_answers, is_number, is_tuple_of
from placehues.walks import Walk
from placehues.words import has_letters

MOST_STANDS = 2000


class Keeper:
    """A BOOK at work: the FLAG and the list of the HUES of the STAND to which it is turned."""

    def __init__(self, book, stand):
        flag, hues = stand
        self.rows = book[3]
        self.flag = flag
        self.hues = list(hues)

    def turn(self, place, letter):
        """Puts letter at place, be it a letter or 0."""
        self.flag, own, left, right = self.rows[self.flag][self.hues[place]][letter]
        ahead, behind = self.hues[:place], self.hues[place + 1:]
        self.hues = [left[hue] for hue in ahead] + [own] + [right[hue] for hue in behind]

    def stand(self):
        """The STAND now."""
        return self.flag, tuple(self.hues)


def is_book(thing):
    """Whether thing is a BOOK: a quadruple of its answers, its hues, how it begins, and its rows."""
    if not is_tuple_of(thing, 4):
        return False
    answers, hues, begin, rows = thing
    if not is_answers(answers) or not _is_hues(hues):
        return False
    return _is_begin(begin, len(answers), hues) and _is_rows(rows, len(answers), hues)


def _is_hues(thing):
    """Whether thing has for each HUE its letter, and each letter up to the last one, from 1, and 0 has one."""
    return has_numbers_from(thing, 0) and len(thing) > 0 and 1 <= max(thing) == len(set(thing)) - 1


def _is_begin(thing, many, hues):
    """Whether thing is a pair of one of so many FLAGS and of a HUE of 0."""
    return is_tuple_of(thing, 2) and _is_flag(thing[0], many) and _is_hue_of(thing[1], hues, 0)


def _is_flag(thing, many):
    """Whether thing is one of so many FLAGS."""
    return is_number(thing) and 0 <= thing < many


def _is_hue_of(thing, hues, letter):
    """Whether thing is a HUE of this letter."""
    return is_number(thing) and 0 <= thing < len(hues) and hues[thing] == letter


def _is_rows(thing, many, hues):
    """Whether thing has a ROW for each of so many FLAGS, each HUE, and each letter and 0."""
    if not is_tuple_of(thing, many) or not all([is_tuple_of(lines, len(hues)) for lines in thing]):
        return False
    return all([_is_line(line, many, hues) for lines in thing for line in lines])


def _is_line(thing, many, hues):
    """Whether thing has a ROW for each letter and 0."""
    if not is_tuple_of(thing, max(hues) + 1):
        return False
    return all([_is_row(row, letter, many, hues) for letter, row in enumerate(thing)])


def _is_row(thing, letter, many, hues):
    """Whether thing is a ROW that puts this letter."""
    if not is_tuple_of(thing, 4):
        return False
    flag, own, left, right = thing
    if not _is_flag(flag, many) or not _is_hue_of(own, hues, letter):
        return False
    return _is_map(left, hues) and _is_map(right, hues)


def _is_map(thing, hues):
    """Whether thing has for each HUE one of the same letter."""
    return has_numbers_between(thing, 0, len(hues) - 1) and tuple([hues[own] for own in thing]) == hues


def is_stand(book, thing):
    """Whether thing is a STAND of book: a pair of a FLAG and of the HUES at one place or more."""
    if not is_tuple_of(thing, 2) or not _is_flag(thing[0], len(book[0])):
        return False
    return has_numbers_between(thing[1], 0, len(book[1]) - 1) and len(thing[1]) > 0


def letters_of(book):
    """How many letters book has."""
    return max(book[1])


def hues_for(book, letter):
    """The set of the HUES of this letter, or of 0; Unfit() if book has no such letter."""
    if letter > letters_of(book):
        raise Unfit()
    return tuple([hue for hue, own in enumerate(book[1]) if own == letter])


def begun(book, many):
    """The STAND with so many places with which book begins."""
    flag, hue = book[2]
    return flag, (hue,) * many


def turned(book, stand, change):
    """The STAND to which change turns stand; NoPlace(place), then Unfit() if it does not fit."""
    place, letter = change
    if place >= len(stand[1]):
        raise NoPlace(place)
    if letter > letters_of(book):
        raise Unfit()
    keeper = Keeper(book, stand)
    keeper.turn(place, letter)
    return keeper.stand()


def _begun_for(book, history):
    """The Keeper that begins on the places of history; Unfit() if history has a letter that book has not."""
    if not has_letters(history, letters_of(book)):
        raise Unfit()
    return Keeper(book, begun(book, history[0]))


def stand_behind(book, history):
    """The STAND behind history."""
    keeper = _begun_for(book, history)
    for place, letter in history[1]:
        keeper.turn(place, letter)
    return keeper.stand()


def answer(book, history):
    """Whether book answers True behind history."""
    return book[0][stand_behind(book, history)[0]]


def flags_along(book, history):
    """The tuple of the FLAGS ahead of the first CHANGE and behind each."""
    keeper = _begun_for(book, history)
    flags = [keeper.flag]
    for place, letter in history[1]:
        keeper.turn(place, letter)
        flags.append(keeper.flag)
    return tuple(flags)


def hues_along(book, history, place):
    """The tuple of the HUES at place ahead of the first CHANGE and behind each."""
    keeper = _begun_for(book, history)
    if not 0 <= place < history[0]:
        raise NoPlace(place)
    hues = [keeper.hues[place]]
    for changed_place, letter in history[1]:
        keeper.turn(changed_place, letter)
        hues.append(keeper.hues[place])
    return tuple(hues)


def text_of(book, stand):
    """The TEXT that the HUES of stand tell."""
    return tuple([book[1][hue] for hue in stand[1]])


def _all_changes(book, many):
    """The list, ascending, of all CHANGES at so many places."""
    return [(place, letter) for place in range(many) for letter in range(letters_of(book) + 1)]


def _go_on(book, walk, changes):
    """Tells walk to which STANDS changes turn the one that is here; TooMuch() if it has found too many."""
    walk.go_on([turned(book, walk.here(), change) for change in changes])
    if len(walk.found) > MOST_STANDS:
        raise TooMuch()


def stands_come(book, many):
    """The list, ascending, of the STANDS of so many places behind all HISTORIES; TooMuch() above 2,000."""
    changes = _all_changes(book, many)
    walk = Walk(begun(book, many))
    while not walk.is_done():
        _go_on(book, walk, changes)
    return sorted(walk.found)


def history_to(book, stand):
    """Of the HISTORIES with stand behind them and the fewest CHANGES the least.

    TooMuch() if more than 2,000 STANDS come by so many CHANGES that do not
    lead to it; CanNot() if none does.
    """
    goal = as_tuples(stand)
    many = len(goal[1])
    changes = _all_changes(book, many)
    walk = Walk(begun(book, many))
    if walk.here() == goal:
        return many, ()
    while not walk.is_done():
        # all that come by one CHANGE less are asked first: TooMuch() counts all that come by as many
        come = len(walk.found)
        for number in range(len(walk.rows), come):
            last = _change_to(book, walk.found[number], goal)
            if last is not None:
                return many, tuple([changes[at - 1] for at in walk.word_to(number)] + [last])
        while len(walk.rows) < come:
            _go_on(book, walk, changes)
    raise CanNot()


def _change_to(book, stand, goal):
    """The least CHANGE that turns stand to goal; None if none does."""
    # a CHANGE leaves the TEXT as it is at all places but one
    text = text_of(book, goal)
    unlike = [place for place, letter in enumerate(text_of(book, stand)) if letter != text[place]]
    if len(unlike) > 1:
        return None
    places = unlike if len(unlike) == 1 else list(range(len(text)))
    for place in places:
        if turned(book, stand, (place, text[place])) == goal:
            return place, text[place]
    return None
