"""BOOKS judged for all lengths: lists of least rows, tables, or a shortest row of CHANGES that parts."""

from placehues.backwards import Ahead, Rows, Search
from placehues.books import letters_of, stand_behind
from placehues.doings import leads_apart, letter_doings, product
from placehues.errors import CanNot, NoPlace, TooMuch, Unfit
from placehues.groups import Group
from placehues.kinds import as_tuples, has_numbers, is_ascending, is_number, is_tuple_of
from placehues.machines import least, letters_in
from placehues.sights import Sights, pairs_told, reached
from placehues.words import text_behind

MOST_DOINGS = 6
MOST_FLAGS = 6
MOST_HUES = 18
MOST_ROWS = 3000


def _least_group(book, machine):
    """The least MACHINE alike to machine; Unfit() if it is no group's, or has not as many letters as book."""
    small = least(machine)
    if letters_of(book) != letters_in(small) or not leads_apart(small):
        raise Unfit()
    return small


def sight_behind(book, machine, history):
    """The SIGHT with the MARKS of all places behind history; Unfit() if book has not its letters."""
    small = _least_group(book, machine)
    flag, hues = stand_behind(book, history)
    letters = letter_doings(small)
    whole, marks = tuple(range(len(small[0]))), []
    for hue, letter in zip(hues, text_behind(history)):
        marks.append((hue, whole))
        if letter > 0:
            whole = product(whole, letters[letter - 1])
    return flag, whole, tuple(marks)


def sight_turned(book, machine, sight, number, letter):
    """sight turned by a CHANGE at MARK number; NoPlace(number) if there is none."""
    small = _least_group(book, machine)
    flag, whole, marks = as_tuples(sight)
    if not 0 <= number < len(marks):
        raise NoPlace(number)
    hue, one = marks[number]
    after, own, left, right = book[3][flag][hue][letter]
    letters = [tuple(range(len(small[0])))] + letter_doings(small)
    turn = _turn(one, letters[book[1][hue]], letters[letter])
    ahead = [(left[old], doing) for old, doing in marks[:number]]
    behind = [(right[old], product(turn, doing)) for old, doing in marks[number + 1:]]
    return after, product(turn, whole), tuple(ahead + [(own, one)] + behind)


def _turn(one, old, new):
    """one . new . old' . one', of DOINGS that lead no two STATES to one."""
    put, taken = product(one, new), product(one, old)
    back = {state: place for place, state in enumerate(taken)}
    return tuple([back[state] for state in put])


def lies_in(one, other):
    """Whether the SIGHT one lies in other."""
    flag, whole, marks = as_tuples(one)
    other_flag, other_whole, others = as_tuples(other)
    found = 0
    for mark in others:
        if found < len(marks) and mark == marks[found]:
            found += 1
    return (flag, whole) == (other_flag, other_whole) and found == len(marks)


def _judged(book, machine):
    """The Sights of both; Unfit(), then TooMuch() if they are too great to be judged."""
    _least_group(book, machine)
    group = Group(machine)
    if len(group.doings) > MOST_DOINGS or len(book[0]) > MOST_FLAGS or len(book[1]) > MOST_HUES:
        raise TooMuch()
    return Sights(book, group)


def parting(book, machine):
    """A HISTORY that parts both, with the fewest CHANGES; None if book is right."""
    return Search(_judged(book, machine), MOST_ROWS, None).run()


def is_right(book, machine):
    """Whether book is right for machine."""
    return parting(book, machine) is None


def least_rows(book, machine):
    """The LIST of the least SIGHTS from which a wrong one can come; CanNot() if book is not right."""
    sights = _judged(book, machine)
    search = Search(sights, MOST_ROWS, None)
    if search.run() is not None:
        raise CanNot()
    return tuple([_sight_told(sights, spot, marks) for spot, marks in sorted(search.found)])


def _sight_told(sights, spot, marks):
    """The SIGHT of a spot and marks."""
    flag, whole = _pair_told(sights, spot)
    return flag, whole, tuple([_pair_told(sights, mark) for mark in marks])


def _pair_told(sights, number):
    """The pair of a FLAG or HUE, and of a DOING, that a spot or a mark is."""
    first, one = divmod(number, sights.many)
    return first, sights.group.doings[one]


def _number_of(sights, thing, many):
    """The spot or mark that is this pair of one of so many FLAGS or HUES and of a DOING; None if it is none."""
    first, one = thing
    if not is_number(first) or not 0 <= first < many or not has_numbers(one):
        return None
    return first * sights.many + sights.group.numbers[one] if one in sights.group.numbers else None


def _sight_number(sights, thing):
    """The pair of the spot and the marks of a SIGHT; None if thing is none."""
    if not is_tuple_of(thing, 3) or not isinstance(thing[2], tuple):
        return None
    spot = _number_of(sights, thing[:2], len(sights.answers))
    marks = [_mark_number(sights, mark) for mark in thing[2]]
    return None if spot is None or None in marks else (spot, tuple(marks))


def _mark_number(sights, thing):
    """The number of a MARK; None if thing is none."""
    return _number_of(sights, thing, len(sights.hues)) if is_tuple_of(thing, 2) else None


def is_rows(book, machine, thing):
    """Whether thing is a LIST."""
    _least_group(book, machine)
    sights = Sights(book, Group(machine))
    if not isinstance(thing, tuple):
        return False
    told = [_sight_number(sights, own) for own in thing]
    if None in told or not is_ascending(told):
        return False
    rows = Rows()
    for spot, marks in told:
        rows.put(spot, marks)
    if any([sights.is_begun(spot, marks) for spot, marks in told]):
        return False
    if not all([rows.lies_in(spot, ()) for spot in sights.wrong_spots()]):
        return False
    return _is_closed(sights, rows, told)


def _is_closed(sights, rows, told):
    """Whether, where a CHANGE leads to a SIGHT in which one of rows lies, one lies in that ahead of it, too."""
    ahead = Ahead(sights, rows, None, True)
    spot, steps = None, []
    for own, marks in told:
        if own != spot:
            spot, steps = own, sights.steps_to(own)
        for step in steps:
            if len(ahead.ways_to(step, marks, False)) > 0 or len(ahead.ways_to(step, marks, True)) > 0:
                return False
    return True


def table(book, machine):
    """The TABLE that is part of all TABLES; CanNot() if there is none."""
    sights = _judged(book, machine)
    found = reached(sights, False)
    if found is None:
        raise CanNot()
    rows = [(spot, mark) for spot, marks in found.items() for mark in marks]
    return tuple([_pair_told(sights, spot) + (_pair_told(sights, mark),) for spot, mark in sorted(rows)])


def is_table(book, machine, thing):
    """Whether thing is a TABLE."""
    _least_group(book, machine)
    sights = Sights(book, Group(machine))
    if not isinstance(thing, tuple) or not all([is_tuple_of(own, 3) for own in thing]):
        return False
    told = [(_number_of(sights, own[:2], len(sights.answers)), _mark_number(sights, own[2])) for own in thing]
    if any([spot is None or mark is None for spot, mark in told]) or not is_ascending(told):
        return False
    if any([sights.is_wrong(spot) for spot, _ in told]) or (sights.spot, sights.mark) not in told:
        return False
    return _is_closed_table(sights, told)


def _is_closed_table(sights, told):
    """Whether a CHANGE at one mark turns it and each other mark beside the same spot to such of told."""
    marks_at, found = {}, {pair: True for pair in told}
    for spot, mark in told:
        marks_at.setdefault(spot, []).append(mark)
    for spot, one in told:
        for other in marks_at[spot]:
            if not all([pair in found for pair in pairs_told(sights, spot, one, other)]):
                return False
    return True
