"""DOINGS: what WORDS do to the STATES of the least MACHINE."""

from math import lcm

from placehues.errors import CanNot, TooMuch, Unfit
from placehues.kinds import has_numbers, has_numbers_between, is_tuple_of
from placehues.machines import ends_of, least, led_to, letters_in, parting_from
from placehues.walks import Walk

MOST_DOINGS = 48


def doing(machine, word):
    """The DOING of word."""
    return doing_by(least(machine), word)


def doing_by(small, word):
    """The DOING of word by a MACHINE that is a least one."""
    return tuple([led_to(small, state, word) for state in range(len(small[0]))])


def product(one, other):
    """The DOING of a WORD with one and a WORD with other behind it."""
    return tuple([other[state] for state in one])


def letter_doings(small):
    """The list of the DOINGS of the letters 1, 2, .. by a MACHINE that is a least one."""
    return [tuple([row[at] for row in small[0]]) for at in range(letters_in(small))]


def walk_doings(small):
    """The Walk from ONE to all DOINGS by a least MACHINE; TooMuch() if there are more than 48."""
    letters = letter_doings(small)
    walk = Walk(tuple(range(len(small[0]))))
    while not walk.is_done():
        walk.go_on([product(walk.here(), letter) for letter in letters])
        if len(walk.found) > MOST_DOINGS:
            raise TooMuch()
    return walk


def _has_found(walk, thing):
    """Whether thing is a DOING that walk has found."""
    # a dict takes True for 1, so what is no number is told first
    return has_numbers(thing) and thing in walk.numbers


def fit_doing(walk, one):
    """one, as a tuple; Unfit() if it is no DOING that walk has found."""
    if isinstance(one, list):
        one = tuple(one)
    if not _has_found(walk, one):
        raise Unfit()
    return one


def doings(machine):
    """The set of all DOINGS by machine."""
    return tuple(sorted(walk_doings(least(machine)).found))


def is_doing(machine, thing):
    """Whether thing is a DOING by machine."""
    return _has_found(walk_doings(least(machine)), thing)


def word_for(machine, one):
    """Of the shortest WORDS whose DOING is one, the least."""
    walk = walk_doings(least(machine))
    return walk.word_to(walk.numbers[fit_doing(walk, one)])


def round_of(one):
    """The pair (lead, length) of when one, taken again and again, comes round.

    lead is the least number of times such that length times more make the
    same DOING; length is the least for it, from 1.
    """
    # each STATE is led into a round of its own: all must have come in, and all rounds must close
    lead, length = 0, 1
    for state in range(len(one)):
        ahead, around = _round_from(one, state)
        lead = max(lead, ahead)
        length = lcm(length, around)
    return lead, length


def _round_from(one, state):
    """How many STATES are ahead of the round into which one leads state, and how many on it."""
    seen = {}
    while state not in seen:
        seen[state] = len(seen)
        state = one[state]
    return seen[state], len(seen) - seen[state]


def _halts(one):
    """Whether one taken twice is one."""
    return product(one, one) == one


def halting(machine):
    """The set of the DOINGS that halt."""
    return tuple([one for one in doings(machine) if _halts(one)])


def is_group(machine):
    """Whether machine is a group's."""
    small = least(machine)
    walk_doings(small)
    return leads_apart(small)


def leads_apart(small):
    """Whether no letter leads two STATES of a least MACHINE to one, so whether it is a group's."""
    return all([len(set(one)) == len(one) for one in letter_doings(small)])


def commutes(machine):
    """Whether all DOINGS by machine commute."""
    return len(_crossed_pairs(machine)) == 0


def crossed(machine):
    """The least pair of letters whose DOINGS do not commute; CanNot() if all do."""
    pairs = _crossed_pairs(machine)
    if len(pairs) == 0:
        raise CanNot()
    return pairs[0]


def _crossed_pairs(machine):
    """The list, ascending, of the ascending pairs of letters whose DOINGS do not commute."""
    small = least(machine)
    walk_doings(small)
    told = list(enumerate(letter_doings(small), start=1))
    pairs = [(low, high, one, other) for low, one in told for high, other in told[low:]]
    return [(low, high) for low, high, one, other in pairs if product(one, other) != product(other, one)]


def surroundings(machine, one, other):
    """Of the SURROUNDINGS of both with the fewest letters, the least; CanNot() if one is other."""
    small = least(machine)
    walk = walk_doings(small)
    first, second = fit_doing(walk, one), fit_doing(walk, other)
    if first == second:
        raise CanNot()
    return least_surroundings(small, first, second)


def least_surroundings(small, one, other):
    """What surroundings returns, for two unlike DOINGS by a least MACHINE."""
    found = []
    walk = Walk(0)
    while not walk.is_done():
        state, ahead = walk.here(), walk.word_here()
        behind = parting_from(small, small, (one[state], other[state]))
        if behind is not None:
            found.append((len(ahead) + len(behind), ahead, behind))
        walk.go_on(small[0][state])
    _, ahead, behind = min(found)
    return ahead, behind


def is_surroundings(machine, one, other, thing):
    """Whether thing is SURROUNDINGS of one and other."""
    small = least(machine)
    walk = walk_doings(small)
    first, second = fit_doing(walk, one), fit_doing(walk, other)
    return has_words(small, thing, 2) and _surrounds(small, first, second, thing)


def has_words(machine, thing, many):
    """Whether thing is a tuple of so many WORDS of the letters of machine."""
    letters = letters_in(machine)
    return is_tuple_of(thing, many) and all([has_numbers_between(word, 1, letters) for word in thing])


def _surrounds(small, one, other, pair):
    """Whether a pair of WORDS is SURROUNDINGS of one and other, by a least MACHINE."""
    ahead, behind = pair
    ends, state = ends_of(small), led_to(small, 0, ahead)
    return (led_to(small, one[state], behind) in ends) != (led_to(small, other[state], behind) in ends)


def stuck(machine):
    """The triple of WORDS at which machine is stuck; CanNot() if it is a group's."""
    small = least(machine)
    walk = walk_doings(small)
    still = walk.found[0]
    for one in walk.found[1:]:
        if _halts(one):
            ahead, behind = least_surroundings(small, still, one)
            return walk.word_to(walk.numbers[one]), ahead, behind
    raise CanNot()


def is_stuck(machine, thing):
    """Whether machine is stuck at thing."""
    small = least(machine)
    still = walk_doings(small).found[0]
    if not has_words(small, thing, 3):
        return False
    one = doing_by(small, thing[0])
    return _halts(one) and _surrounds(small, still, one, thing[1:])
