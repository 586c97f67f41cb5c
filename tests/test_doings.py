"""[3], [6]: DOINGS."""

import unittest
from itertools import product as all_rows

from odd_values import ODD_VALUES, variants
from placehues.doings import (
    commutes, crossed, doing, doings, halting, is_doing, is_group, is_stuck, is_surroundings, product, round_of,
    stuck, surroundings, word_for,
)
from placehues.errors import CanNot, NoPlace, TooMuch, Unfit
from placehues.machines import least
from plain_search import Plain, plain_round, small_machines, some_machines, then, walk, words_upto

ODD, SOME, FIRST = (((1,), (0,)), (1,)), (((1,), (1,)), (1,)), (((1, 2), (1, 1), (2, 2)), (1,))
THREE = (((1, 0), (0, 2), (2, 1)), (0,))
ALL, NONE = (((0, 0, 0),), (0,)), (((0, 0, 0),), ())
# as many DOINGS as STATES, and no group's
LATEST = (((1, 2), (1, 2), (1, 2)), (1,))
# what twelve STATES and three letters do: a turn, an exchange, a meeting
MOST = (tuple([((at + 1) % 12, {0: 1, 1: 0}.get(at, at), max(at, 1)) for at in range(12)]), (0,))
# a ring of twelve, one letter a step on, one back, one stays
RING = (tuple([((at + 1) % 12, (at + 11) % 12, at) for at in range(12)]), (0,))


def orders_and_flips(with_sink):
    """Orders of four things and a flip, on eight STATES: 48 DOINGS; one more with a letter into a sink."""
    def number(place, flip):
        return 2 * place + flip

    steps = []
    for place in range(4):
        for flip in (0, 1):
            turn = number((place + 1) % 4, 1 - flip)
            exchange = number({0: 1, 1: 0}.get(place, place), flip)
            steps.append((turn, exchange, 8) if with_sink else (turn, exchange))
    if with_sink:
        steps.append((8, 8, 8))
    return (tuple(steps), (0,))


FULL, OVER = orders_and_flips(False), orders_and_flips(True)


def chain(many):
    """One letter that goes on to the last STATE and stays: as many DOINGS as STATES."""
    return (tuple([(min(at + 1, many - 1),) for at in range(many)]), (many - 1,))


def error_of(function, *args):
    try:
        return function(*args)
    except (CanNot, TooMuch, Unfit, NoPlace) as error:
        return error.__class__


def or_none(function, *args):
    got = error_of(function, *args)
    return None if got is CanNot else got


class BesideAPlainSearch(unittest.TestCase):
    def machines(self):
        for states, letters in ((1, 1), (1, 2), (2, 1), (2, 2), (3, 1)):
            yield from small_machines(states, letters)
        yield from some_machines(120, 3, 2, 21)
        yield from some_machines(60, 2, 3, 22)
        yield from some_machines(80, 6, 1, 23)
        yield from (ODD, SOME, FIRST, THREE, ALL, NONE, LATEST)

    def test_what_machines_do(self):
        for machine in self.machines():
            own = Plain(machine)
            with self.subTest(machine):
                self.assertLessEqual(len(own.words), 48)
                self.assertEqual(doings(machine), own.doings())
                self.assertEqual(halting(machine), own.halting())
                self.assertIs(is_group(machine), own.is_group())
                self.assertIs(commutes(machine), own.commutes())
                self.assertEqual(or_none(crossed, machine), own.crossed())
                self.assertEqual(or_none(stuck, machine), own.stuck())
                self.assertEqual(is_group(machine), halting(machine) == (own.one,))

    def test_each_doing(self):
        for machine in self.machines():
            own = Plain(machine)
            for one, word in own.words.items():
                self.assertEqual(word_for(machine, one), word)
                self.assertEqual(doing(machine, word), one)
                self.assertEqual(round_of(one), plain_round(one))
                self.assertIs(is_doing(machine, one), True)

    def test_each_two(self):
        for machine in list(self.machines())[::4]:
            own = Plain(machine)
            for one in own.doings():
                for other in own.doings():
                    self.assertEqual(product(one, other), then(one, other))
                    self.assertEqual(or_none(surroundings, machine, one, other), own.surroundings(one, other))

    def test_papers(self):
        for machine in list(self.machines())[::9]:
            own = Plain(machine)
            words = list(words_upto(own.letters, 2))
            for pair in all_rows(words, repeat=2):
                for one, other in zip(own.doings(), own.doings()[1:] + (own.one,)):
                    expected = own.surrounds(one, other, pair)
                    self.assertIs(is_surroundings(machine, one, other, pair), expected)
            for word, ahead, behind in all_rows(words, repeat=3):
                one = own.doing(word)
                expected = then(one, one) == one and own.surrounds(own.one, one, (ahead, behind))
                self.assertIs(is_stuck(machine, (word, ahead, behind)), expected)


class Doings(unittest.TestCase):
    def test_one(self):
        self.assertEqual(doing(ODD, ()), (0, 1))
        self.assertEqual(doings(ALL), ((0,),))
        self.assertEqual(doings(NONE), ((0,),))
        self.assertEqual(word_for(THREE, (0, 1, 2)), ())

    def test_by_the_least_machine(self):
        twice = (((1,), (2,), (3,), (0,)), (1, 3))
        self.assertEqual(doings(twice), ((0, 1), (1, 0)))
        self.assertEqual(doing(twice, (1, 1, 1)), (1, 0))
        self.assertEqual(doings((((1,), (0,), (3,), (2,)), (1, 2))), ((0, 1), (1, 0)))
        self.assertEqual(doing((RING[0], tuple(range(12))), (1, 2, 3)), (0,))

    def test_long_words(self):
        word = tuple([1 + at * at % 3 for at in range(60)])
        turns = sum([{1: 1, 2: -1, 3: 0}[letter] for letter in word])
        own = least(RING)
        self.assertEqual(doing(RING, word), doing(RING, (1,) * (turns % 12)))
        self.assertEqual(len(own[0]), 12)
        own = least(MOST)
        self.assertEqual(doing(MOST, word), tuple([walk(own, state, word) for state in range(12)]))

    def test_no_letter(self):
        for machine, word, place in ((ODD, (1, 2, 3), 2), (FIRST, (3,), 3), (MOST, (3, 4, 5), 4)):
            with self.assertRaises(NoPlace) as caught:
                doing(machine, word)
            self.assertEqual(caught.exception.place, place)

    def test_product_and_round_are_for_any_machine(self):
        one, other = doing(MOST, (1,)), doing(MOST, (3,))
        self.assertEqual(product(one, other), doing(MOST, (1, 3)))
        self.assertEqual(round_of(one), (0, 12))
        self.assertEqual(round_of(doing(MOST, (1, 3))), plain_round(doing(MOST, (1, 3))))
        self.assertEqual(round_of((1, 2, 0, 4, 5, 6, 3, 8, 9, 10, 11, 7)), (0, 60))
        self.assertEqual(round_of((1, 2, 3, 4, 5, 6, 7, 8, 9, 10, 11, 11)), (11, 1))
        self.assertEqual(round_of((1, 2, 3, 4, 5, 6, 7, 8, 5, 10, 11, 9)), (5, 12))
        self.assertEqual(round_of((0,)), (0, 1))

    def test_twelve_states(self):
        self.assertEqual(len(doings(RING)), 12)
        self.assertIs(is_group(RING), True)
        self.assertIs(commutes(RING), True)
        self.assertIs(error_of(crossed, RING), CanNot)
        self.assertEqual(word_for(RING, doing(RING, (1,) * 6)), (1,) * 6)
        self.assertEqual(word_for(RING, doing(RING, (1,) * 7)), (2,) * 5)

    def test_crossed_is_the_least(self):
        # only letters 2 and 3 do not commute, 1 does nothing
        self.assertEqual(crossed((((0, 1, 0), (1, 0, 2), (2, 2, 1)), (0,))), (2, 3))
        # 1 and 3 do not, 2 does nothing
        self.assertEqual(crossed((((1, 0, 0), (0, 1, 2), (2, 2, 1)), (0,))), (1, 3))
        self.assertEqual(crossed((((1, 1, 0), (0, 0, 2), (2, 2, 1)), (0,))), (1, 3))


class Surroundings(unittest.TestCase):
    def test_the_least_of_the_shortest(self):
        machine = (((1, 2), (3, 4), (4, 3), (3, 3), (4, 4)), (3,))
        own = Plain(machine)
        for one in own.doings():
            for other in own.doings():
                self.assertEqual(or_none(surroundings, machine, one, other), own.surroundings(one, other))

    def test_as_tuples_compare(self):
        # ((1,), ()) has as few letters, but () is less than (1,)
        self.assertEqual(surroundings(THREE, (1, 2, 0), (2, 0, 1)), ((), (1,)))
        self.assertIs(is_surroundings(THREE, (1, 2, 0), (2, 0, 1), ((1,), ())), True)
        # (1, 2) is longer than (2,) and less
        machine = (((2, 1), (3, 0), (0, 3), (1, 1)), (0, 2, 3))
        one, other = (2, 3, 0, 2), (2, 3, 3, 1)
        self.assertEqual(surroundings(machine, one, other), ((1, 2), ()))
        self.assertIs(is_surroundings(machine, one, other, ((2,), (1,))), True)

    def test_of_two_chains(self):
        machine = chain(12)
        one, other = doing(machine, (1,) * 3), doing(machine, (1,) * 4)
        ahead, behind = surroundings(machine, one, other)
        self.assertEqual((ahead, behind), ((), (1,) * 7))

    def test_alike(self):
        for machine in (ODD, SOME, FIRST, THREE, ALL, FULL):
            for one in doings(machine)[:5]:
                self.assertIs(error_of(surroundings, machine, one, one), CanNot)
                self.assertIs(is_surroundings(machine, one, one, ((), ())), False)

    def test_all_are_surroundings(self):
        for machine in (SOME, FIRST, THREE, RING, FULL, LATEST):
            own = doings(machine)
            for one, other in zip(own, own[1:]):
                self.assertIs(is_surroundings(machine, one, other, surroundings(machine, one, other)), True)

    def test_long_words(self):
        ahead = (1, 2) * 20000 + (1,)
        one, other = doing(RING, (1,)), doing(RING, (2,))
        for behind, expected in (((), True), ((3,) * 9999, True), ((2, 2), True), ((1,), False), ((2,), False)):
            self.assertIs(is_surroundings(RING, one, other, (ahead, behind)), expected)

    def test_letters_that_are_not_there(self):
        for thing in (((2,), ()), ((), (2,)), ((1, 10 ** 400), ()), ((0,), ()), ((), (0,)), ((-1,), ())):
            self.assertIs(is_surroundings(SOME, (0, 1), (1, 1), thing), False)
        self.assertIs(is_surroundings(SOME, (0, 1), (1, 1), ((), ())), True)
        self.assertIs(is_surroundings(FIRST, (0, 1, 2), (1, 1, 2), ((), (2,))), True)
        for thing in (((), (0,)), ((), (-1,)), ((), (3,)), ((), (2, 0)), ((0,), ()), ((), (True,))):
            self.assertIs(is_surroundings(FIRST, (0, 1, 2), (1, 1, 2), thing), False)

    def test_any_value(self):
        for thing in ODD_VALUES:
            with self.subTest(repr(thing)[:60]):
                fit = repr(thing) == "((), ())"
                self.assertIs(is_surroundings(SOME, (0, 1), (1, 1), thing), fit)

    def test_nearly_surroundings(self):
        for thing in variants(((), (1,))):
            with self.subTest(repr(thing)):
                self.assertIs(is_surroundings(THREE, (1, 2, 0), (2, 0, 1), thing), False)


class Stuck(unittest.TestCase):
    def test_groups_are_not(self):
        for machine in (ODD, THREE, ALL, NONE, RING, FULL):
            self.assertIs(error_of(stuck, machine), CanNot)
            words = [(), (1,), (1, 1)]
            for thing in all_rows(words, repeat=3):
                self.assertIs(is_stuck(machine, thing), False)

    def test_others_are(self):
        for machine in (SOME, FIRST, LATEST, chain(12), chain(48)):
            self.assertIs(is_stuck(machine, stuck(machine)), True)
        self.assertEqual(stuck(chain(12)), ((1,) * 11, (), ()))
        self.assertEqual(stuck(LATEST), ((1,), (), ()))

    def test_it_must_halt(self):
        self.assertIs(is_stuck(chain(3), ((1,), (), (1,))), False)
        self.assertIs(is_stuck(chain(3), ((1, 1), (), (1,))), True)
        self.assertIs(is_stuck(chain(3), ((1, 1), (1,), (1,))), False)

    def test_any_value(self):
        for thing in ODD_VALUES:
            for machine in (SOME, FIRST, THREE):
                self.assertIs(is_stuck(machine, thing), False)

    def test_nearly_stuck(self):
        self.assertIs(is_stuck(FIRST, ((2,), (), (1,))), True)
        for thing in variants(((2,), (), (1,))):
            with self.subTest(repr(thing)):
                self.assertIs(is_stuck(FIRST, thing), False)
        for thing in (
            ((3,), (), (1,)), ((2,), (3,), (1,)), ((2,), (), (1, 3)), ((2,), (0,), (1,)), ((0,), (), (1,)),
            ((-1,), (), (1,)), ((2,), (), (0, 1)), ((2,), (), (True,)),
        ):
            self.assertIs(is_stuck(FIRST, thing), False)

    def test_long_words(self):
        self.assertIs(is_stuck(SOME, ((1,) * 50000, (), ())), True)
        self.assertIs(is_stuck(SOME, ((1,) * 50000, (1,), ())), False)


class NoDoings(unittest.TestCase):
    def test_is_doing(self):
        for thing in ODD_VALUES:
            for machine in (SOME, THREE, ODD):
                self.assertIs(is_doing(machine, thing), False)
        self.assertIs(is_doing(ALL, (0,)), True)
        for thing in ((False,), [0], (1,), (0, 0), (), 0, (-1,), ((0,),), "0", ("0",)):
            self.assertIs(is_doing(ALL, thing), False)
        for thing in (
            (1, 0), (False, True), (0, True), [0, 1], (0, 1, 1), (0,), (0, -1), (0, 10 ** 400), ((0, 1),), (0, (1,)),
        ):
            self.assertIs(is_doing(SOME, thing), False)

    def test_nearly_a_doing(self):
        for thing in variants((1, 2, 0)):
            self.assertIs(is_doing(THREE, thing), False)

    def test_unfit(self):
        for one in (
            (1, 0), (0, 0), (), (0,), (0, 1, 1), (2, 1), (-1, 1), (0, 10 ** 30), [1, 0], [], (True, True), None,
        ):
            with self.subTest(repr(one)):
                self.assertIs(error_of(word_for, SOME, one), Unfit)
                self.assertIs(error_of(surroundings, SOME, one, (1, 1)), Unfit)
                self.assertIs(error_of(surroundings, SOME, (1, 1), one), Unfit)
                self.assertIs(error_of(surroundings, SOME, one, one), Unfit)
                for thing in (None, ((), ()), [(), ()]):
                    self.assertIs(error_of(is_surroundings, SOME, one, (1, 1), thing), Unfit)
                    self.assertIs(error_of(is_surroundings, SOME, (1, 1), one, thing), Unfit)


class HowMany(unittest.TestCase):
    def test_48_are_not_too_much(self):
        self.assertEqual(len(doings(FULL)), 48)
        self.assertIs(is_group(FULL), True)
        self.assertEqual(crossed(FULL), (1, 2))
        self.assertEqual(len(halting(FULL)), 1)
        own = doings(chain(48))
        self.assertEqual(len(own), 48)
        self.assertEqual(stuck(chain(48)), ((1,) * 47, (), ()))
        self.assertEqual(word_for(chain(48), own[-1]), (1,) * 47)

    def test_each_of_48(self):
        own = Plain(FULL)
        self.assertEqual(doings(FULL), own.doings())
        for one in own.doings():
            self.assertEqual(word_for(FULL, one), own.words[one])
            self.assertEqual(round_of(one), plain_round(one))

    def test_more_is_too_much_ahead_of_all_else(self):
        for machine in (OVER, chain(49), MOST):
            for function in (doings, halting, is_group, commutes, crossed, stuck):
                self.assertIs(error_of(function, machine), TooMuch)
            one = doing(machine, (1,))
            for own in (one, (), None, (1, 0)):
                self.assertIs(error_of(word_for, machine, own), TooMuch)
                self.assertIs(error_of(is_doing, machine, own), TooMuch)
                self.assertIs(error_of(is_stuck, machine, own), TooMuch)
                self.assertIs(error_of(surroundings, machine, own, one), TooMuch)
                self.assertIs(error_of(surroundings, machine, one, own), TooMuch)
                self.assertIs(error_of(surroundings, machine, own, own), TooMuch)
                self.assertIs(error_of(is_surroundings, machine, own, one, None), TooMuch)
            self.assertEqual(len(product(one, one)), len(one))
            self.assertEqual(round_of(one), plain_round(one))
            self.assertIs(error_of(doing, machine, (7,)), NoPlace)

    def test_only_the_least_machine_counts(self):
        self.assertEqual(doings((MOST[0], ())), ((0,),))
        self.assertIs(is_group((OVER[0], tuple(range(9)))), True)
        self.assertEqual(len(doings((OVER[0][:9], (8,)))), 2)


if __name__ == "__main__":
    unittest.main()
