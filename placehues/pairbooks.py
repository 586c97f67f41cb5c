"""PAIRBOOKS: TINTS of each two of the places and the ends."""

from placehues.doings import doing_by, least_surroundings, letter_doings, product
from placehues.errors import CanNot, NoPlace, Unfit
from placehues.kinds import has_numbers_between, is_answers, is_tuple_of
from placehues.machines import least, letters_in, takes, walked_machine
from placehues.partings import surrounded
from placehues.products import Products
from placehues.tints import MOST_PAIRS, Together, tint_of
from placehues.walks import Walk
from placehues.words import is_history_of, plain, reads, text_behind


def is_pairbook(thing):
    """Whether thing is a PAIRBOOK: a triple of its answers, how it begins, and its table."""
    if not is_tuple_of(thing, 3) or not is_answers(thing[0]):
        return False
    answers, begin, table = thing
    if not has_numbers_between((begin,), 0, len(answers) - 1) or not is_tuple_of(table, len(answers)):
        return False
    if not all([isinstance(lines, tuple) and len(lines) > 1 for lines in table]):
        return False
    if not all([len(lines) == len(table[0]) for lines in table]):
        return False
    return all([_is_line(line, len(answers)) for lines in table for line in lines])


def _is_line(thing, many):
    """Whether thing has for each of so many TINTS one of them."""
    return has_numbers_between(thing, 0, many - 1) and len(thing) == many


def _letters_of(pairbook):
    """How many letters pairbook has."""
    return len(pairbook[2][0]) - 1


def _match(pairbook, machine):
    """Raises Unfit() if both have not as many letters."""
    if _letters_of(pairbook) != letters_in(machine):
        raise Unfit()


def tint_between(pairbook, history, x, y):
    """The TINT of x and y behind history; NoPlace(x), NoPlace(y), then Unfit() if x is not ahead of y."""
    many = history[0]
    for place in (x, y):
        if place is not None and not 0 <= place < many:
            raise NoPlace(place)
    if x is not None and y is not None and x >= y:
        raise Unfit()
    return tint_of(pairbook, history, 0 if x is None else x + 1, many if y is None else y)


def pair_answer(pairbook, history):
    """What pairbook answers behind history."""
    return pairbook[0][tint_of(pairbook, history, 0, history[0])]


def _together_alone(pairbook):
    """The TINTS that come, each beside the one TINT of a PAIRBOOK that has no other."""
    alone = ((False,), 0, (((0,),) * (_letters_of(pairbook) + 1),))
    return Together(pairbook, alone, None)


def tints_that_come(pairbook):
    """The set of the TINTS that come."""
    return tuple(sorted([tint for tint, _ in _together_alone(pairbook).found]))


def _together(pairbook, machine):
    """The TINTS and the numbers of the DOINGS that come together; Unfit(), then TooMuch()."""
    _match(pairbook, machine)
    return Together(pairbook, tint_book(machine), MOST_PAIRS)


def comes(pairbook, machine):
    """The set of the pairs (TINT, DOING) that come together."""
    found = sorted(_together(pairbook, machine).found)
    doings = Products(machine).doings
    return tuple([(tint, doings[one]) for tint, one in found])


def is_pair_right(pairbook, machine):
    """Whether pairbook is right for machine."""
    found = _together(pairbook, machine).found
    taken = tint_book(machine)[0]
    return all([pairbook[0][tint] == taken[one] for tint, one in found])


def pair_parting(pairbook, machine):
    """A HISTORY with the fewest CHANGES that parts both; CanNot() if pairbook is right."""
    history = _together(pairbook, machine).parting(pairbook[0], tint_book(machine)[0])
    if history is None:
        raise CanNot()
    return history


def is_pair_parting(pairbook, machine, thing):
    """Whether thing is a HISTORY that parts both."""
    _match(pairbook, machine)
    if not is_history_of(thing, _letters_of(pairbook)):
        return False
    return pair_answer(pairbook, thing) != takes(machine, reads(text_behind(thing)))


def tint_book(machine):
    """The right PAIRBOOK whose TINTS are the places of the DOINGS, ascending."""
    products = Products(machine)
    every = range(len(products.doings))
    table = tuple([
        tuple([tuple([products.times(products.times(one, letter), other) for other in every])
               for letter in products.letters])
        for one in every
    ])
    return tuple([products.is_taken(one) for one in every]), products.one, table


def fewest_tints(machine):
    """How many TINTS a right PAIRBOOK must have."""
    return len(Products(machine).doings)


def crowded_tint(pairbook, machine):
    """The least TINT that comes with two DOINGS, and the least two; CanNot() if there is none."""
    pairs = comes(pairbook, machine)
    for (tint, one), (after, other) in zip(pairs, pairs[1:]):
        if tint == after:
            return tint, one, other
    raise CanNot()


def folded_tints(pairbook):
    """pairbook folded."""
    answers, begin, table = pairbook
    tints = tints_that_come(pairbook)
    lots = _lots_of(answers, table, tints)
    first = {}
    for tint in tints:
        first.setdefault(lots[tint], tint)
    # the lots are numbered by their least TINTS ascending, as tints are
    rows = tuple([
        tuple([tuple([lots[line[other]] for other in first.values()]) for line in table[tint]])
        for tint in first.values()
    ])
    return tuple([answers[tint] for tint in first.values()]), lots[begin], rows


def _lots_of(answers, table, tints):
    """For each of tints its lot: those of one lot have one answer, and letters lead them to one lot."""
    told = {tint: answers[tint] for tint in tints}
    lots, many = _numbered(told), 0
    while len(set(list(lots.values()))) > many:
        many = len(set(list(lots.values())))
        told = {}
        for tint in tints:
            right = [lots[line[other]] for line in table[tint] for other in tints]
            left = [lots[line[tint]] for other in tints for line in table[other]]
            told[tint] = (lots[tint], tuple(right), tuple(left))
        lots = _numbered(told)
    return lots


def _numbered(told):
    """For each key of told the number of its value, the values numbered as they first come."""
    numbers = {}
    return {key: numbers.setdefault(own, len(numbers)) for key, own in told.items()}


def pairs_parted(one, other):
    """A HISTORY with the fewest CHANGES behind which both answer unlike; None if there is none."""
    if _letters_of(one) != _letters_of(other):
        raise Unfit()
    return Together(one, other, MOST_PAIRS).parting(one[0], other[0])


class Judged:
    """A PAIRBOOK beside the MACHINE for which it is right if it is right for any: that of its plain HISTORIES."""

    def __init__(self, pairbook):
        self.pairbook = pairbook
        self.together = _together_alone(pairbook)
        self.machine = self.plain_machine()
        self.letters = [doing_by(self.machine, ())] + letter_doings(self.machine)
        self.doings = {}
        for (tint, _), (_, way) in self.together.found.items():
            self.doings[tint] = self.letters[0] if way is None else self.doing_of(way)

    def plain_machine(self):
        """The least MACHINE that takes the WORDS for which a plain HISTORY is answered True."""
        answers, begin, table = self.pairbook
        walk = Walk(begin)
        while not walk.is_done():
            walk.go_on([line[begin] for line in table[walk.here()][1:]])
        return least(walked_machine(walk, [answers[tint] for tint in walk.found]))

    def doing_of(self, way):
        """The DOING of what stands between the ends if they come this way."""
        (left, _), letter, (right, _) = way
        return product(product(self.doings[left], self.letters[letter]), self.doings[right])

    def unlike_way(self):
        """A TINT and a way that leads to it with another DOING than that found first; None if there is none."""
        table = self.pairbook[2]
        for left in self.doings:
            for right in self.doings:
                for letter in range(len(self.letters)):
                    tint, way = table[left][letter][right], ((left, 0), letter, (right, 0))
                    if self.doings[tint] != self.doing_of(way):
                        return tint, way
        return None

    def wrong_tints(self):
        """The list of the TINTS that do not answer whether their DOING is taken."""
        answers, ends = self.pairbook[0], self.machine[1]
        return [tint for tint, one in self.doings.items() if answers[tint] != (one[0] in ends)]

    def way_to(self, tint):
        """How a TINT was found."""
        return self.together.found[(tint, 0)][1]

    def wrong_history(self):
        """A HISTORY behind which the answer is not whether the MACHINE takes what is read; None if there is none."""
        unlike = self.unlike_way()
        if unlike is not None:
            tint, way = unlike
            ahead, behind = least_surroundings(self.machine, self.doings[tint], self.doing_of(way))
            histories = [self.together.history_to(own) for own in (self.way_to(tint), way)]
            # one TINT between, the same around it: one answer, where the MACHINE wants two
            for history in [surrounded(own, ahead, behind) for own in histories]:
                if pair_answer(self.pairbook, history) != takes(self.machine, reads(text_behind(history))):
                    return history
        wrong = self.wrong_tints()
        return None if len(wrong) == 0 else self.together.history_to(self.way_to(wrong[0]))


def pair_machine(pairbook):
    """The least MACHINE for which pairbook is right; CanNot() if it is not steady."""
    judged = Judged(pairbook)
    if judged.unlike_way() is not None or len(judged.wrong_tints()) > 0:
        raise CanNot()
    return judged.machine


def unsteady_pair(pairbook):
    """Two HISTORIES whose TEXTS read one WORD, behind which it answers unlike; CanNot() if it is steady."""
    history = Judged(pairbook).wrong_history()
    if history is None:
        raise CanNot()
    return history, plain(reads(text_behind(history)))


def is_unsteady_pair(pairbook, thing):
    """Whether thing is a pair of HISTORIES whose TEXTS read one WORD, behind which it answers unlike."""
    letters = _letters_of(pairbook)
    if not is_tuple_of(thing, 2) or not all([is_history_of(own, letters) for own in thing]):
        return False
    one, other = thing
    if reads(text_behind(one)) != reads(text_behind(other)):
        return False
    return pair_answer(pairbook, one) != pair_answer(pairbook, other)
