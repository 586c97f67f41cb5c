"""MACHINES: what WORDS they take, and the least one that takes the same."""

from placehues.errors import NoPlace, Unfit
from placehues.kinds import has_numbers_between, is_set_below, is_tuple_of
from placehues.merging import groups_of
from placehues.walks import Walk


def is_machine(thing):
    """Whether thing is a MACHINE: a pair of its steps and its ends."""
    if not is_tuple_of(thing, 2):
        return False
    steps, ends = thing
    return _is_steps(steps) and is_set_below(ends, len(steps))


def _is_steps(thing):
    """Whether thing has for each STATE as many STATES, one at least."""
    if not isinstance(thing, tuple) or len(thing) == 0:
        return False
    last = len(thing) - 1
    if not all([has_numbers_between(row, 0, last) for row in thing]):
        return False
    letters = len(thing[0])
    return letters > 0 and all([len(row) == letters for row in thing])


def letters_in(machine):
    """How many letters machine has."""
    return len(machine[0][0])


def led_to(machine, state, word):
    """The STATE to which word leads from state; NoPlace of the first letter that machine has not."""
    steps, letters = machine[0], letters_in(machine)
    for letter in word:
        if letter > letters:
            raise NoPlace(letter)
        state = steps[state][letter - 1]
    return state


def state_behind(machine, word):
    """The STATE to which word leads from STATE 0."""
    return led_to(machine, 0, word)


def takes(machine, word):
    """Whether machine takes word."""
    return state_behind(machine, word) in machine[1]


def ends_of(machine):
    """The ends of machine as the keys of a dict."""
    return {state: True for state in machine[1]}


def least(machine):
    """The least MACHINE alike to machine."""
    steps, ends = machine[0], ends_of(machine)
    walk = Walk(0)
    while not walk.is_done():
        walk.go_on(steps[walk.here()])
    taking = [state in ends for state in walk.found]
    return _merged(walk.rows, taking, groups_of(walk.rows, taking))


def _merged(rows, taking, groups):
    """The MACHINE whose STATES are the groups, numbered as they are first come to."""
    sample = {group: state for state, group in enumerate(groups)}
    walk = Walk(groups[0])
    while not walk.is_done():
        walk.go_on([groups[after] for after in rows[sample[walk.here()]]])
    return walked_machine(walk, [taking[sample[group]] for group in walk.found])


def walked_machine(walk, taking):
    """The MACHINE with what a Walk has found as STATES; taking tells for each whether it is an end."""
    return tuple(walk.rows), _places_of_true(taking)


def _places_of_true(values):
    """The set of the places at which True stands in values."""
    return tuple([place for place, own in enumerate(values) if own])


def are_alike(one, other):
    """Whether one and other take the same WORDS."""
    _match_letters(one, other)
    return least(one) == least(other)


def parting_word(one, other):
    """Of the shortest WORDS that just one of both takes, the least; None if there is none."""
    _match_letters(one, other)
    return parting_from(one, other, (0, 0))


def parting_from(one, other, pair):
    """What parting_word returns, one begun at the first STATE of pair, other at the second one."""
    ends, other_ends = ends_of(one), ends_of(other)
    walk = Walk(pair)
    while not walk.is_done():
        first, second = walk.here()
        if (first in ends) != (second in other_ends):
            return walk.word_here()
        walk.go_on(_pairs_led_to(one, other, walk.here()))
    return None


def both_of(one, other):
    """The MACHINE that takes the WORDS that both take, its STATES pairs of theirs."""
    _match_letters(one, other)
    walk = Walk((0, 0))
    while not walk.is_done():
        walk.go_on(_pairs_led_to(one, other, walk.here()))
    ends, other_ends = ends_of(one), ends_of(other)
    return walked_machine(walk, [first in ends and second in other_ends for first, second in walk.found])


def other_way(machine):
    """The MACHINE with the same steps and all other STATES as ends."""
    steps, ends = machine[0], ends_of(machine)
    others = _places_of_true([state not in ends for state in range(len(steps))])
    return tuple([tuple(row) for row in steps]), others


def _match_letters(one, other):
    """Raises Unfit() if one and other have not as many letters."""
    if letters_in(one) != letters_in(other):
        raise Unfit()


def _pairs_led_to(one, other, pair):
    """The list of the pairs of STATES to which the letters 1, 2, .. lead this pair."""
    return list(zip(one[0][pair[0]], other[0][pair[1]]))
