"""One judge for the PAPERS of all CLAIMS."""

from placehues.books import is_book, letters_of
from placehues.centres import is_twisted, twisted
from placehues.doings import is_stuck, leads_apart, stuck
from placehues.errors import Unfit
from placehues.fewest import is_parting
from placehues.groups import Group, lot_places
from placehues.judged import is_rows, least_rows, parting
from placehues.kinds import as_tuples, has_numbers, is_ascending, is_number, is_tuple_of
from placehues.machines import is_machine, least, letters_in
from placehues.products import Products
from placehues.steady import are_books_alike, books_parting, is_books_parting, is_jar, is_steady, jar


OF_GROUPS = ("class", "hues", "right")


def is_claim(thing):
    """Whether thing is a CLAIM."""
    if is_tuple_of(thing, 2):
        return thing[0] == "group" and is_machine(thing[1]) or thing[0] == "steady" and is_book(thing[1])
    if not is_tuple_of(thing, 3):
        return False
    word, one, other = thing
    if word in ("class", "hues"):
        return is_machine(one) and _is_group_of(one) and is_number(other) and other >= 0
    if word == "right":
        return is_book(one) and is_machine(other) and letters_of(one) == letters_in(other) and _is_group_of(other)
    return word == "alike" and is_book(one) and is_book(other) and letters_of(one) == letters_of(other)


def _is_group_of(machine):
    """Whether machine is a group's, however many DOINGS there are."""
    return leads_apart(least(machine))


def _claim(claim):
    """claim, with tuples for lists; Unfit() if it is none."""
    own = as_tuples(claim)
    if not is_claim(own):
        raise Unfit()
    return own


def is_so(claim):
    """Whether claim is so."""
    return _judged(_claim(claim))


def _judged(claim):
    """Whether a CLAIM is so; TooMuch() as is_so raises it."""
    word, one = claim[:2]
    if word == "group":
        return leads_apart(Products(one).small)
    if word == "class":
        own = Group(one).class_of()
        return own is not None and own <= claim[2]
    if word == "hues":
        return claim[2] <= len(Group(one).lots())
    if word == "right":
        return parting(one, claim[2]) is None
    return is_steady(one) if word == "steady" else are_books_alike(one, claim[2])


def _ask_whether_too_much(claim):
    """TooMuch() as is_so raises it."""
    # two BOOKS alike are never too much, and are asked only where it is wanted
    if claim[0] != "alike":
        _judged(claim)


def paper(claim):
    """A PAPER for claim if it is so, otherwise one against it."""
    own = _claim(claim)
    return _paper_for(own) if _judged(own) else _paper_against(own)


def _paper_for(claim):
    """A PAPER for a CLAIM that is so."""
    if claim[0] == "group":
        group = Group(claim[1])
        return group.told(group.opposites)
    if claim[0] == "hues":
        group = Group(claim[1])
        return group.told([lot[0] for lot in group.lots()[:claim[2]]])
    return least_rows(claim[1], claim[2]) if claim[0] == "right" else ()


def _paper_against(claim):
    """A PAPER against a CLAIM that is not so."""
    word, one = claim[:2]
    if word == "group":
        return stuck(one)
    if word == "class":
        return tuple([(letter,) for letter in twisted(one, claim[2] + 1)])
    if word == "hues":
        group = Group(one)
        return tuple([group.told(lot) for lot in group.lots()])
    if word == "right":
        return parting(one, claim[2])
    return jar(one) if word == "steady" else books_parting(one, claim[2])


def is_paper_for(claim, thing):
    """Whether thing is a PAPER for claim."""
    own = _claim(claim)
    _ask_whether_too_much(own)
    return _is_for(own, thing)


def _is_for(claim, thing):
    """Whether thing is a PAPER for a CLAIM."""
    word, one = claim[:2]
    if word == "group":
        return _are_opposites(one, thing)
    if word == "hues":
        return _are_of_unlike_lots(Group(one), claim[2], thing)
    if word == "right":
        return is_rows(one, claim[2], thing)
    return is_tuple_of(thing, 0) and _judged(claim)


def _are_opposites(machine, thing):
    """Whether thing is the tuple with the opposite of each DOING, in order."""
    if not leads_apart(Products(machine).small) or not isinstance(thing, tuple):
        return False
    group = Group(machine)
    return all([has_numbers(own) for own in thing]) and thing == group.told(group.opposites)


def _are_of_unlike_lots(group, many, thing):
    """Whether thing is a tuple of so many DOINGS no two of which are of one LOT."""
    if not is_tuple_of(thing, many) or not all([_is_doing(group, own) for own in thing]):
        return False
    places = lot_places(group.lots())
    return len({places[group.numbers[own]] for own in thing}) == many


def _is_doing(group, thing):
    """Whether thing is a DOING of a Group."""
    return has_numbers(thing) and thing in group.numbers


def is_paper_against(claim, thing):
    """Whether thing is a PAPER against claim."""
    own = _claim(claim)
    _ask_whether_too_much(own)
    return _is_against(own, thing)


def _is_against(claim, thing):
    """Whether thing is a PAPER against a CLAIM."""
    word, one = claim[:2]
    if word == "group":
        return is_stuck(one, thing)
    if word == "class":
        return is_twisted(one, claim[2] + 1, thing)
    if word == "hues":
        return _are_too_few_sets(Group(one), claim[2], thing)
    if word == "right":
        return is_parting(one, claim[2], thing)
    return is_jar(one, thing) if word == "steady" else is_books_parting(one, claim[2], thing)


def _are_too_few_sets(group, many, thing):
    """Whether thing is a tuple of fewer sets of DOINGS, each of one LOT, with all DOINGS in them."""
    if not isinstance(thing, tuple) or len(thing) >= many:
        return False
    if not all([isinstance(own, tuple) and all([_is_doing(group, one) for one in own]) for own in thing]):
        return False
    places = lot_places(group.lots())
    if not all([is_ascending(own) and len({places[group.numbers[one]] for one in own}) < 2 for own in thing]):
        return False
    return len({one for own in thing for one in own}) == len(group.doings)


def verdicts(claims, things):
    """The list with "for", "against" or "none" for each CLAIM and the value at its place in things."""
    own = [_claim(claim) for claim in claims]
    if len(own) != len(things):
        raise Unfit()
    for claim in own:
        _ask_whether_too_much(claim)
    return [_verdict(claim, thing) for claim, thing in zip(own, things)]


def _verdict(claim, thing):
    """The string "for", "against" or "none" for a CLAIM and a value."""
    if _is_for(claim, thing):
        return "for"
    return "against" if _is_against(claim, thing) else "none"


def first_false(claims):
    """The first place whose CLAIM is not so, None if all are; none behind it is asked."""
    for place, claim in enumerate([_claim(own) for own in claims]):
        if not _judged(claim):
            return place
    return None


def comes_of(claim, claims):
    """Whether claim comes of claims by the rules of the document."""
    own = _claim(claim)
    told = [_claim(other) for other in claims]
    return own in told or _comes_of(own, told)


def _comes_of(claim, told):
    """Whether a CLAIM, which is none of those told, comes of them."""
    word, one = claim[:2]
    if word == "group":
        return any([one == other[2 if other[0] == "right" else 1] for other in told if other[0] in OF_GROUPS])
    if word == "class":
        return any([other[:2] == claim[:2] and other[2] <= claim[2] for other in told])
    if word == "hues":
        return any([other[:2] == claim[:2] and other[2] >= claim[2] for other in told])
    books = _alike_to(one, told)
    if word == "alike":
        return claim[2] in books
    if word == "right":
        return any([other[0] == word and other[1] in books and other[2] == claim[2] for other in told])
    return any([other[0] in ("steady", "right") and other[1] in books for other in told])


def _alike_to(book, told):
    """The list of the BOOKS that come of those told to be alike to book, itself too if any do."""
    links = []
    for claim in told:
        if claim[0] == "alike":
            links.extend([(claim[1], claim[2]), (claim[2], claim[1])])
        if claim[0] == "right":
            # a BOOK is alike to all that are right for one MACHINE, so to itself
            links.extend([(claim[1], other[1]) for other in told if other[0] == "right" and other[2] == claim[2]])
    books = [other for one, other in links if one == book][:1]
    number = 0
    while number < len(books):
        books.extend(_next_books(books, links, books[number]))
        number += 1
    return books


def _next_books(books, links, book):
    """The list of those that a link leads to from book, each once, that are not of books."""
    found = []
    for one, other in links:
        if one == book and other not in books and other not in found:
            found.append(other)
    return found
