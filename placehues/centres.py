"""Groups: what commutes with all, and how far the others are from it."""

from math import lcm

from placehues.doings import has_words, round_of
from placehues.errors import CanNot
from placehues.groups import Group


def opposite(machine, one):
    """The opposite of one."""
    group = Group(machine)
    return group.doings[group.opposites[group.fit(one)]]


def exponent(machine):
    """The least number from 1 such that each DOING, taken so many times, is ONE."""
    return exponent_of(Group(machine))


def exponent_of(group):
    """The exponent of a Group."""
    number = 1
    for one in group.doings:
        number = lcm(number, round_of(one)[1])
    return number


def centre(machine):
    """The CENTRE."""
    group = Group(machine)
    return group.told(group.centre())


def lots(machine):
    """The set of the LOTS."""
    group = Group(machine)
    return tuple([group.told(lot) for lot in group.lots()])


def lot_of(machine, one):
    """The LOT that one lies in."""
    group = Group(machine)
    number = group.fit(one)
    return group.told(sorted([group.times(number, own) for own in group.centre()]))


def is_central(machine, one):
    """Whether one is of the CENTRE."""
    group = Group(machine)
    return group.is_central(group.fit(one))


def rises(machine):
    """The list of the RISES up to the first that is like the next one."""
    group = Group(machine)
    return [group.told(own) for own in group.rises()]


def class_of(machine):
    """The class, or None."""
    return Group(machine).class_of()


def cross(machine, one, other):
    """The cross of one and other."""
    group = Group(machine)
    return group.doings[group.cross(group.fit(one), group.fit(other))]


def crosses(machine):
    """The set of the crosses of all DOINGS."""
    return twists(machine, 2)


def twist(machine, words):
    """The twist of the DOINGS of words; NoPlace of the first letter that machine has not."""
    group = Group(machine)
    return group.doings[_twist_of(group, words)]


def _twist_of(group, words):
    """The number of the twist of the DOINGS of words."""
    one, *others = [group.of_word(word) for word in words]
    for other in others:
        one = group.cross(one, other)
    return one


def twists(machine, many):
    """The set of the twists of so many DOINGS."""
    group = Group(machine)
    every = range(len(group.doings))
    found = list(every)
    for _ in range(many - 1):
        found = sorted({group.cross(one, other) for one in found for other in every})
    return group.told(found)


def twisted(machine, many):
    """The least tuple of so many letters with a twist that is not ONE; CanNot() if there is none."""
    group = Group(machine)
    # for each number of further letters: from which DOINGS they can lead to a twist that is not ONE
    hopes = [[one > 0 for one in range(len(group.doings))]]
    for _ in range(many - 1):
        hopes.append([_hopeful_letter(group, one, hopes[-1]) is not None for one in range(len(group.doings))])
    ahead = [letter for letter, one in enumerate(group.letters) if hopes[-1][one]]
    # nothing is no letter here, and no hope: its twists are ONE
    if len(ahead) == 0:
        raise CanNot()
    found = [ahead[0]]
    one = group.letters[ahead[0]]
    for hope in hopes[-2::-1]:
        found.append(_hopeful_letter(group, one, hope))
        one = group.cross(one, group.letters[found[-1]])
    return tuple(found)


def _hopeful_letter(group, one, hope):
    """The least letter such that there is hope for its cross behind one; None if there is none."""
    for letter, other in enumerate(group.letters):
        if hope[group.cross(one, other)]:
            return letter
    return None


def is_twisted(machine, many, thing):
    """Whether thing is a tuple of so many WORDS of its letters whose twist is not ONE."""
    group = Group(machine)
    return has_words(group.small, thing, many) and _twist_of(group, thing) != 0
