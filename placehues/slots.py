"""Rows of slots, behind which a BOOK that tells too little has one FLAG where the MACHINE wants two."""

from placehues.books import stand_behind
from placehues.centres import exponent_of
from placehues.doings import crossed, least_surroundings
from placehues.errors import CanNot
from placehues.groups import Group
from placehues.kinds import has_numbers_from, is_tuple_of
from placehues.partings import one_that_parts, surrounded, unlike_letter, with_change
from placehues.told import goes_by


def is_deal(thing):
    """Whether thing is a DEAL: pairs of a spot and a letter or 0, each spot once."""
    if not isinstance(thing, tuple) or len(thing) == 0:
        return False
    if not all([is_tuple_of(own, 2) and has_numbers_from(own, 0) for own in thing]):
        return False
    return sorted([spot for spot, _ in thing]) == list(range(len(thing)))


def dealt(deal):
    """The WORD that deal reads."""
    spots = sorted([(spot, letter) for spot, letter in deal])
    return tuple([letter for _, letter in spots if letter > 0])


def like_deals(machine, word):
    """A pair of DEALS that look alike to those told word and are apart; CanNot() if there is none."""
    return _like_deals(Group(machine), word)


def _like_deals(group, word):
    """What like_deals returns."""
    if word == "side":
        return _deals_of_one(group)
    return _deals_of_two(group)


def _deals_of_one(group):
    """The DEALS of a letter and of nothing that are apart; CanNot() if all letters are of the CENTRE."""
    for letter, one in enumerate(group.letters):
        if not group.is_central(one):
            return ((0, letter),), ((0, 0),)
    raise CanNot()


def _deals_of_two(group):
    """The DEALS of two letters in both orders that are apart; CanNot() if the cross of any two is central."""
    for first, one in enumerate(group.letters):
        for second, other in enumerate(group.letters):
            if not group.is_central(group.cross(one, other)):
                return ((0, first), (1, second)), ((1, first), (0, second))
    raise CanNot()


def is_like_deals(machine, word, thing):
    """Whether thing is a pair of DEALS that look alike to those told word and are apart."""
    group = Group(machine)
    if not is_tuple_of(thing, 2) or not all([_is_deal_for(group, own) for own in thing]):
        return False
    return _looks_alike(word, thing) and _are_apart(group, thing)


def _is_deal_for(group, thing):
    """Whether thing is a DEAL of letters of the MACHINE and 0s."""
    return is_deal(thing) and all([letter < len(group.letters) for _, letter in thing])


def _looks_alike(word, deals):
    """Whether two DEALS look alike to those told word."""
    one, other = deals
    if word == "side":
        return len(one) == len(other)
    return [letter for _, letter in one] == [letter for _, letter in other]


def _are_apart(group, deals):
    """Whether two DEALS are apart."""
    one, other = [group.of_word(dealt(deal)) for deal in deals]
    return not group.is_central(group.times(group.opposites[one], other))


def slots(machine, deals, bits, around):
    """The HISTORY that puts the slots for bits."""
    return _slots(exponent_of(Group(machine)), deals, bits, around)


def _slots(stretches, deals, bits, around):
    """What slots returns, a slot having so many stretches."""
    ahead, behind = around
    wide = len(deals[0])
    changes = []
    for number, bit in enumerate(bits):
        start = ahead + number * (stretches * wide + 1)
        for stretch in range(stretches):
            # the gap is behind the first stretch
            left = start + stretch * wide + min(stretch, 1)
            changes.extend([(left + spot, letter) for spot, letter in deals[bit]])
    return ahead + len(bits) * (stretches * wide + 1) + behind, tuple(changes)


def gap_place(machine, deals, around, number):
    """The place of the gap with this number, from 0."""
    return _gap_place(exponent_of(Group(machine)), deals, around, number)


def _gap_place(stretches, deals, around, number):
    """What gap_place returns, a slot having so many stretches."""
    wide = len(deals[0])
    return around[0] + number * (stretches * wide + 1) + wide


def told_too_little(book, machine):
    """A HISTORY that parts both, if others are told too little for this machine; otherwise CanNot()."""
    group = Group(machine)
    if len(group.centre()) == len(group.doings):
        raise CanNot()
    if goes_by(book, "blind"):
        twins = _crossed_twins(machine, group)
    elif goes_by(book, "side"):
        twins = _slot_twins(book, group, _like_deals(group, "side"))
    elif goes_by(book, "letters"):
        twins = _slot_twins(book, group, _like_deals(group, "letters"))
    else:
        raise CanNot()
    return one_that_parts(book, machine, twins)


def _crossed_twins(machine, group):
    """Two HISTORIES that are alike to each BOOK that goes by "blind", and just one of which reads what is taken.

    Two letters are put, in one order, at two places side by side, or at them the other way about.
    """
    one, other = crossed(machine)
    wholes = [group.doings[group.of_word(word)] for word in ((one, other), (other, one))]
    ahead, behind = least_surroundings(group.small, wholes[0], wholes[1])
    return [surrounded((2, ((place, one), (1 - place, other))), ahead, behind) for place in (0, 1)]


def _slot_twins(book, group, deals):
    """Two HISTORIES with slots behind which book has one FLAG, and just one of which reads what is taken.

    book goes by what the DEALS look alike to.
    """
    stretches = exponent_of(group)
    one, other = _bits_of_one_flag(book, stretches, deals)
    number = [first != second for first, second in zip(one, other)].index(True)
    gap = _gap_place(stretches, deals, (0, 0), number)
    starts = [group.of_word(dealt(deals[bits[number]])) for bits in (one, other)]
    new, ahead, behind = unlike_letter(group, starts, 0, 0)
    histories = [_slots(stretches, deals, bits, (0, 0)) for bits in (one, other)]
    return [surrounded(with_change(history, gap, new), ahead, behind) for history in histories]


def _bits_of_one_flag(book, stretches, deals):
    """Two unlike rows of bits, as many, behind the slots for which book has one FLAG."""
    many = len(book[0])
    rows = {}
    # so many bits have more rows than there are FLAGS, so one comes again
    for number in range(many + 1):
        bits = [number >> at & 1 for at in range(many.bit_length())]
        flag = stand_behind(book, _slots(stretches, deals, bits, (0, 0)))[0]
        if flag in rows:
            return rows[flag], bits
        rows[flag] = bits
    raise CanNot()
