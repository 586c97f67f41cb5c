"""BOOKS that answer alike whatever HISTORY leads to what is read, and two BOOKS alike."""

from placehues.backwards import Search
from placehues.books import answer, letters_of
from placehues.doings import is_group
from placehues.errors import CanNot, Unfit
from placehues.groups import Group
from placehues.judged import parting
from placehues.kinds import is_tuple_of
from placehues.laps import stuck_parting
from placehues.machines import least, walked_machine
from placehues.pairing import side_by_side
from placehues.sights import Sights, reached
from placehues.walks import Walk
from placehues.words import is_history_of, plain, reads, text_behind


def own_machine(book):
    """The own MACHINE of book."""
    answers, _, begin, rows = book
    letters = range(1, letters_of(book) + 1)
    # letters are put from the left: the free places to the right have one HUE, all others are never asked
    walk = Walk((begin[0], begin[1]))
    while not walk.is_done():
        flag, free = walk.here()
        puts = [rows[flag][free][letter] for letter in letters]
        walk.go_on([(after, right[free]) for after, _, _, right in puts])
    return least(walked_machine(walk, [answers[flag] for flag, _ in walk.found]))


def is_steady(book):
    """Whether book is steady."""
    own = own_machine(book)
    return is_group(own) and parting(book, own) is None


def jar(book):
    """A JAR of book; CanNot() if there is none."""
    own = own_machine(book)
    history = parting(book, own) if is_group(own) else stuck_parting(book, own)
    if history is None:
        raise CanNot()
    return history, plain(reads(text_behind(history)))


def is_jar(book, thing):
    """Whether thing is a JAR of book."""
    if not is_tuple_of(thing, 2) or not all([is_history_of(own, letters_of(book)) for own in thing]):
        return False
    one, other = thing
    return reads(text_behind(one)) == reads(text_behind(other)) and answer(book, one) != answer(book, other)


def _match_books(one, other):
    """Raises Unfit() if two BOOKS have not as many letters."""
    if letters_of(one) != letters_of(other):
        raise Unfit()


def are_books_alike(one, other):
    """Whether one and other are alike."""
    return _books_parting(one, other) is None


def books_parting(one, other):
    """A HISTORY that parts both BOOKS; CanNot() if there is none."""
    history = _books_parting(one, other)
    if history is None:
        raise CanNot()
    return history


def _books_parting(one, other):
    """What books_parting returns; None if there is none."""
    _match_books(one, other)
    # beside a MACHINE that takes nothing the two make a BOOK that should never answer True
    nothing = (((0,) * letters_of(one),), ())
    sights = Sights(side_by_side(one, other, lambda own, told: own != told), Group(nothing))
    if reached(sights, False) is not None:
        return None
    return Search(sights, None, reached(sights, True)).run()


def is_books_parting(one, other, thing):
    """Whether thing is a HISTORY of their letters that parts both BOOKS."""
    _match_books(one, other)
    return is_history_of(thing, letters_of(one)) and answer(one, thing) != answer(other, thing)
