"""What a BOOK tells the places that are not changed, and what groups want to be told."""

from placehues.groups import Group
from placehues.kinds import as_tuples, has_numbers_from, is_tuple_of

WORDS = ("all", "blind", "flag", "letters", "nobody", "side")


def goes_by(book, word):
    """Whether book goes by this word."""
    return word in told_of(book)


def told_of(book):
    """The set of the words by which book goes."""
    rows = _maps_of_rows(book)
    still = tuple(range(len(book[1])))
    goes = {
        "all": True,
        "blind": all([left == right for _, _, left, right in rows]),
        "flag": _is_fixed([(flags, (left, right)) for flags, _, left, right in rows]),
        "letters": _is_fixed([(letters, (left, right)) for _, letters, left, right in rows]),
        "nobody": all([left == still and right == still for _, _, left, right in rows]),
        "side": _is_fixed([(0, (left, right)) for _, _, left, right in rows]),
    }
    return tuple([word for word in WORDS if goes[word]])


def _maps_of_rows(book):
    """For each ROW: the pair of its FLAG and the next one, that of its letters, old and new, and its two maps."""
    found = []
    for flag, lines in enumerate(as_tuples(book[3])):
        for own, line in enumerate(lines):
            for new, (after, _, left, right) in enumerate(line):
                found.append(((flag, after), (book[1][own], new), left, right))
    return found


def _is_fixed(pairs):
    """Whether no two pairs have one first value and unlike second ones."""
    fixed = {}
    return all([fixed.setdefault(first, second) == second for first, second in pairs])


def is_parts(book, thing):
    """Whether thing are PARTS for book."""
    hues = book[1]
    if not is_tuple_of(thing, len(hues)) or not all([has_numbers_from(own, 0) for own in thing]):
        return False
    levels = len(thing[0])
    if levels == 0 or not all([len(own) == levels for own in thing]):
        return False
    if len(set(list(zip(hues, thing)))) < len(hues):
        return False
    return _hangs_at_all_levels(book, thing)


def _hangs_at_all_levels(book, parts):
    """Whether at each level the number that a map gives hangs only on what it may hang on."""
    maps = _maps_by_side(book)
    behind = (0,) * len(parts)
    known, bound = None, []
    for level in range(len(parts[0]) - 1, -1, -1):
        numbers = [own[level] for own in parts]
        here = _alike(list(zip(numbers, behind)))
        # what is bound to have one number is asked again only if other HUES are alike than a level behind
        if known != (here, behind):
            known, bound = (here, behind), _bound_together(book, maps, here, behind)
        if not all([numbers[first] == numbers[other] for first, other in bound]):
            return False
        behind = here
    return True


def _alike(values):
    """For each of values the place, among the unlike ones, of the first that is like it."""
    places = {}
    return tuple([places.setdefault(own, len(places)) for own in values])


def _maps_by_side(book):
    """The list of the unlike (side, own HUE, new letter, map) of all ROWS, side 0 for the left."""
    found = {}
    for lines in as_tuples(book[3]):
        for own, line in enumerate(lines):
            for new, (_, _, left, right) in enumerate(line):
                found[(0, own, new, left)] = True
                found[(1, own, new, right)] = True
    return list(found)


def _bound_together(book, maps, here, behind):
    """The list of the pairs of HUES that maps give and that must have one number at a level.

    here tells which HUES have the same numbers from this level on, behind
    which have them behind it.
    """
    hues, first, pairs = book[1], {}, {}
    for side, own, new, given in maps:
        told = (side, hues[own], new, behind[own])
        for hue, after in enumerate(given):
            pairs[(first.setdefault((told, hues[hue], here[hue]), after), after)] = True
    return list(pairs)


def told_for(machine):
    """What a right BOOK must tell: "nobody", "letters" or "flag"."""
    own = Group(machine).class_of()
    if own is None or own > 2:
        return "flag"
    return "letters" if own == 2 else "nobody"


def levels_for(machine):
    """The fewest levels of PARTS that a right BOOK has, 0 if one that goes by "nobody" is right; or None."""
    own = Group(machine).class_of()
    return None if own is None else max(0, own - 1)
