"""HISTORIES that part a BOOK and a MACHINE, made of two that the BOOK can not tell apart."""

from placehues.books import answer, letters_of
from placehues.doings import least_surroundings
from placehues.errors import CanNot, Unfit
from placehues.machines import letters_in, takes
from placehues.words import reads, text_behind


def match_letters(book, machine):
    """Raises Unfit() if book and machine have not as many letters."""
    if letters_of(book) != letters_in(machine):
        raise Unfit()


def does_part(book, machine, history):
    """Whether history parts book and machine."""
    return answer(book, history) != takes(machine, reads(text_behind(history)))


def one_that_parts(book, machine, histories):
    """The first of two HISTORIES if it parts book and machine, otherwise the second one.

    To be asked where book answers alike behind both and machine takes what
    just one of both reads: then one of them parts.
    """
    first, second = histories
    return first if does_part(book, machine, first) else second


def surrounded(history, ahead, behind):
    """history with further places at both ends, at which WORDS are put at last."""
    many, changes = history
    start, stop = len(ahead), len(ahead) + many
    inner = [(start + place, letter) for place, letter in changes]
    outer = list(enumerate(ahead)) + list(enumerate(behind, start=stop))
    return stop + len(behind), tuple(inner + outer)


def with_change(history, place, letter):
    """history with one CHANGE more."""
    return history[0], tuple([(old, own) for old, own in history[1]] + [(place, letter)])


def unlike_letter(group, starts, old, whole):
    """(new, ahead, behind): a letter or 0 put in the place of old, and WORDS put at the far ends.

    starts are two DOINGS of unlike LOTS; old is put behind one of them, and
    all that is read has the DOING whole. Put behind the one or the other, new
    makes unlike DOINGS of whole; with the WORDS around them just one is taken.
    """
    one, other = starts
    for new in range(len(group.letters)):
        turns = [group.turn(one, old, new), group.turn(other, old, new)]
        if turns[0] != turns[1]:
            wholes = [group.doings[group.times(turn, whole)] for turn in turns]
            ahead, behind = least_surroundings(group.small, wholes[0], wholes[1])
            return new, ahead, behind
    # what commutes with all letters is of the CENTRE, so the LOTS are one
    raise CanNot()
