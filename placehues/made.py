"""The HUE BOOK of a group's MACHINE."""

from placehues.building import book_over, pairs_over
from placehues.errors import CanNot
from placehues.groups import Group, lot_places


def hue_book(machine):
    """The HUE BOOK; TooMuch(), behind Unfit(), if its FLAGS times its HUES are above 240."""
    group = Group(machine)
    return book_over(group, group.lots())


def book_sizes(machine):
    """The pair of how many FLAGS and how many HUES the HUE BOOK has."""
    group = Group(machine)
    return len(group.doings), len(group.letters) * len(group.lots())


def flag_doings(machine):
    """The tuple of the DOINGS for which the FLAGS of the HUE BOOK stand."""
    return Group(machine).doings


def hue_pairs(machine):
    """The tuple of the pairs (letter, LOT) for which the HUES of the HUE BOOK stand."""
    group = Group(machine)
    return pairs_over(group, [group.told(lot) for lot in group.lots()])


def turn_by(machine, one, old, new):
    """The turn of old to new behind one."""
    group = Group(machine)
    return group.doings[group.turn(group.fit(one), old, new)]


def stand_for(machine, text):
    """The STAND of the HUE BOOK that tells text; NoPlace of the first letter that machine has not."""
    group = Group(machine)
    lots = group.lots()
    places = lot_places(lots)
    flag = group.of_word(text)
    ahead, hues = 0, []
    for letter in text:
        hues.append(letter * len(lots) + places[ahead])
        ahead = group.times(ahead, group.letters[letter])
    return flag, tuple(hues)


def parts_for(machine):
    """PARTS for the HUE BOOK; CanNot() if the class is None."""
    group = Group(machine)
    own = group.class_of()
    if own is None:
        raise CanNot()
    # behind the last RISE of the list each one is like it
    rises = group.rises() + [tuple(range(len(group.doings)))]
    places = [lot_places(group.lots_by(rise)) for rise in rises[1:max(own, 2)]]
    parts = [tuple([own_places[lot[0]] for own_places in places]) for lot in group.lots()]
    return tuple([numbers for _ in group.letters for numbers in parts])
