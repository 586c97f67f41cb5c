"""WORDS, TEXTS and HISTORIES."""

from placehues.errors import NoPlace
from placehues.kinds import has_numbers_from, is_number, is_tuple_of


def is_word(thing):
    """Whether thing is a WORD: a tuple of letters."""
    return has_numbers_from(thing, 1)


def is_text(thing):
    """Whether thing is a TEXT: a tuple of letters and 0."""
    return has_numbers_from(thing, 0)


def is_history(thing):
    """Whether thing is a HISTORY: a pair of how many places, and CHANGES at them."""
    if not is_tuple_of(thing, 2):
        return False
    many, changes = thing
    if not is_number(many) or many < 1 or not isinstance(changes, tuple):
        return False
    return all([_is_change(change, many) for change in changes])


def _is_change(thing, many):
    """Whether thing is a CHANGE at one of so many places."""
    return is_tuple_of(thing, 2) and has_numbers_from(thing, 0) and thing[0] < many


def is_history_of(thing, letters):
    """Whether thing is a HISTORY that puts no letter above so many."""
    return is_history(thing) and has_letters(thing, letters)


def has_letters(history, letters):
    """Whether no letter of history is above so many."""
    return all([letter <= letters for _, letter in history[1]])


def reads(text):
    """The WORD that text reads."""
    return tuple([letter for letter in text if letter > 0])


def changed(text, change):
    """The TEXT behind change; NoPlace(place) if text has no such place."""
    place, letter = change
    if place >= len(text):
        raise NoPlace(place)
    after = list(text)
    after[place] = letter
    return tuple(after)


def text_behind(history):
    """The TEXT behind history."""
    many, changes = history
    text = [0] * many
    for place, letter in changes:
        text[place] = letter
    return tuple(text)


def texts_along(history):
    """The list of the TEXTS behind the first 0, 1, .. CHANGES, up to all."""
    many, changes = history
    texts = [(0,) * many]
    for change in changes:
        texts.append(changed(texts[-1], change))
    return texts


def plain(word):
    """The plain HISTORY for word with the fewest places."""
    # a HISTORY has one place at least, also where nothing is put
    return max(1, len(word)), tuple(enumerate(word))


def beside(one, other):
    """The HISTORY with the places of other behind those of one, and first the CHANGES of one."""
    first = [(place, letter) for place, letter in one[1]]
    second = [(one[0] + place, letter) for place, letter in other[1]]
    return one[0] + other[0], tuple(first + second)


def puts_only(history):
    """Whether each CHANGE puts a letter at a place at which 0 stands then."""
    taken = {}
    for place, letter in history[1]:
        if letter == 0 or place in taken:
            return False
        taken[place] = True
    return True


def takes_back(history):
    """Whether each CHANGE puts a letter where 0 stands, or takes back the last such put that is left."""
    # only what these puts have put stands, so their places are all that are not free
    puts = []
    for place, letter in history[1]:
        if letter > 0 and place not in puts:
            puts.append(place)
        elif letter == 0 and puts[-1:] == [place]:
            puts.pop()
        else:
            return False
    return True
