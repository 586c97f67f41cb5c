"""Laps of one WORD, after which a BOOK can not tell whether it stands at all."""

from placehues.books import letters_of, stand_behind
from placehues.doings import is_group, round_of, stuck
from placehues.errors import TooMuch, Unfit
from placehues.kinds import is_tuple_of
from placehues.partings import one_that_parts
from placehues.words import is_history_of, reads, text_behind

MOST_CHANGES = 2000


def lap(book, word, around):
    """The triple (lead, period, laps) of filling with word between around."""
    pair = _pair_of_ends(book, around)
    seen = {}
    while pair not in seen:
        seen[pair] = len(seen)
        pair, _ = _block_behind(book, word, pair)
    lead = seen[pair]
    period = len(seen) - lead
    return lead, period, _laps_of(_put_left(book, word, pair, period))


def _pair_of_ends(book, around):
    """The pair behind no blocks: the FLAG, and the HUE of the places between the ends."""
    ahead, behind = around
    flag, between = book[2]
    for letter in ahead:
        flag, _, _, right = book[3][flag][between][letter]
        between = right[between]
    last = between
    for letter in behind:
        flag, _, left, right = book[3][flag][last][letter]
        between, last = left[between], right[last]
    return flag, between


def _block_behind(book, word, pair):
    """The pair behind one block more, and the list of the left maps of its CHANGES."""
    flag, hue = pair
    lefts = []
    for letter in word:
        flag, _, left, right = book[3][flag][hue][letter]
        hue = right[hue]
        lefts.append(left)
    return (flag, hue), lefts


def _put_left(book, word, pair, blocks):
    """The map by which so many blocks, begun at pair, put the HUES left of them."""
    hues = list(range(len(book[1])))
    for _ in range(blocks):
        pair, lefts = _block_behind(book, word, pair)
        for left in lefts:
            hues = [left[hue] for hue in hues]
    return tuple(hues)


def _laps_of(put):
    """The least number from 1 of times such that put so often, and twice as often, is one."""
    # so often it must have come into its round, and so many times more must go round it
    lead, length = round_of(put)
    return length * max(1, (lead + length - 1) // length)


def twins(book, word, around):
    """The pair of HISTORIES with one FLAG behind them, word standing between the ends in the second alone."""
    lead, period, laps = lap(book, word, around)
    blocks = laps * period
    ends = len(around[0]) + len(around[1])
    if ends + len(word) * (2 * lead + 5 * blocks) > MOST_CHANGES:
        raise TooMuch()
    return _filled_and_emptied(word, around, lead, blocks, 2), _filled_and_emptied(word, around, lead, blocks, 3)


def _filled_and_emptied(word, around, lead, blocks, rounds):
    """The HISTORY that fills lead and so many rounds of blocks, then empties the last, the lead and the first."""
    start, last = len(around[0]), lead + rounds * blocks
    stop = start + last * len(word)
    changes = list(enumerate(around[0])) + list(enumerate(around[1], start=stop))
    changes.extend(list(enumerate(list(word) * last, start=start)))
    for low, high in ((last - blocks, last), (0, lead), (lead, lead + blocks)):
        changes.extend([(start + place, 0) for place in range(low * len(word), high * len(word))])
    return stop + len(around[1]), tuple(changes)


def is_twins(book, word, around, thing):
    """Whether thing is a pair of HISTORIES with one FLAG behind them, of ends alone and with word between."""
    if not is_tuple_of(thing, 2) or not all([is_history_of(own, letters_of(book)) for own in thing]):
        return False
    one, other = [reads(text_behind(own)) for own in thing]
    flag, other_flag = [stand_behind(book, own)[0] for own in thing]
    ahead, behind = tuple(around[0]), tuple(around[1])
    times = (len(other) - len(one)) // len(word)
    return (
        flag == other_flag and one == ahead + behind
        and times > 0 and other == ahead + tuple(word) * times + behind
    )


def standing_machine(letters, letter):
    """The least MACHINE of so many letters that takes the WORDS in which letter stands."""
    first = tuple([1 if own == letter else 0 for own in range(1, letters + 1)])
    return (first, (1,) * letters), (1,)


def stuck_parting(book, machine):
    """A HISTORY that parts both; Unfit() if machine is a group's; TooMuch() where twins does."""
    if is_group(machine):
        raise Unfit()
    word, ahead, behind = stuck(machine)
    return one_that_parts(book, machine, twins(book, word, (ahead, behind)))
