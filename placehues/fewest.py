"""How many HUES there must be, and what a BOOK with fewer of them can not tell apart."""

from placehues.books import letters_of, stand_behind
from placehues.errors import CanNot, NoPlace, Unfit
from placehues.groups import Group
from placehues.kinds import as_tuples, has_numbers_between, is_tuple_of
from placehues.partings import does_part, match_letters, one_that_parts, surrounded, unlike_letter, with_change
from placehues.words import is_history_of, text_behind


def hues_of(book):
    """The tuple with, for 0 and each letter, how many HUES have it."""
    hues = list(book[1])
    return tuple([hues.count(letter) for letter in range(letters_of(book) + 1)])


def fewest_hues(machine):
    """How many LOTS machine has."""
    return len(Group(machine).lots())


def has_enough(book, machine):
    """Whether book has as many HUES of 0 and of each letter as machine has LOTS."""
    return min(hues_of(book)) >= len(_group_beside(book, machine).lots())


def _group_beside(book, machine):
    """The Group of machine; Unfit() first if book has not as many letters."""
    match_letters(book, machine)
    return Group(machine)


def spread_for(machine, letter):
    """The SPREAD of machine for a letter or 0; NoPlace(letter) if machine has not this letter."""
    return _spread_by_lots(Group(machine), letter)


def _spread_by_lots(group, letter):
    """What spread_for returns."""
    if not 0 <= letter < len(group.letters):
        raise NoPlace(letter)
    return spread_to(group, [lot[0] for lot in group.lots()], letter)


def spread_to(group, aims, letter):
    """The pair of a TEXT and of the places of letter in it ahead of which it reads these DOINGS in turn."""
    text, places = [], []
    one = 0
    for aim in aims:
        text.extend(group.word_from(one, aim))
        places.append(len(text))
        text.append(letter)
        one = group.times(aim, group.letters[letter])
    return tuple(text), tuple(places)


def crowd_of(book, machine, letter):
    """The CROWD of the SPREAD for letter; CanNot() if none of its places have one HUE."""
    text, places = _spread_by_lots(_group_beside(book, machine), letter)
    history = history_of_text(text)
    pairs = pairs_of_one_hue(book, history, places)
    if len(pairs) == 0:
        raise CanNot()
    one, other = pairs[0]
    return history, one, other


def history_of_text(text):
    """The HISTORY that puts the letters of text at its places, from the left, leaving out each 0."""
    return len(text), tuple([(place, letter) for place, letter in enumerate(text) if letter > 0])


def pairs_of_one_hue(book, history, places):
    """The list, ascending, of the ascending pairs of these places that have one HUE behind history."""
    hues = stand_behind(book, history)[1]
    pairs = [(one, other) for at, one in enumerate(places) for other in places[at + 1:]]
    return [(one, other) for one, other in pairs if hues[one] == hues[other]]


def is_crowd(book, machine, thing):
    """Whether thing is a CROWD of both."""
    return _is_crowd(book, _group_beside(book, machine), thing)


def _is_crowd(book, group, thing):
    """Whether thing is a CROWD of book and the MACHINE of a Group."""
    if not is_tuple_of(thing, 3) or not is_history_of(thing[0], letters_of(book)):
        return False
    history, one, other = thing
    if not has_numbers_between((one, other), 0, history[0] - 1) or one >= other:
        return False
    hues, text = stand_behind(book, history)[1], text_behind(history)
    between = group.times(group.opposites[group.of_word(text[:one])], group.of_word(text[:other]))
    return hues[one] == hues[other] and not group.is_central(between)


def crowd_parting(book, machine, crowd):
    """A HISTORY that parts both, made of a CROWD; Unfit() if it is none."""
    group = _group_beside(book, machine)
    own = as_tuples(crowd)
    if not _is_crowd(book, group, own):
        raise Unfit()
    return one_that_parts(book, machine, crowd_twins(group, own))


def crowd_twins(group, crowd):
    """Two HISTORIES, for a CROWD, behind which each BOOK with it has one FLAG and one HUE at each end.

    The MACHINE takes what just one of both reads. One letter is put at the
    one place of the CROWD, or at the other one: they have one HUE, so the
    BOOK goes on alike but between them.
    """
    history, one, other = crowd
    text = text_behind(history)
    starts = [group.of_word(text[:place]) for place in (one, other)]
    new, ahead, behind = unlike_letter(group, starts, text[one], group.of_word(text))
    return [surrounded(with_change(history, place, new), ahead, behind) for place in (one, other)]


def is_parting(book, machine, thing):
    """Whether thing is a HISTORY of their letters that parts book and machine."""
    match_letters(book, machine)
    return is_history_of(thing, letters_of(book)) and does_part(book, machine, thing)
