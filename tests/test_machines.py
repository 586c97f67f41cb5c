"""[3], [5]: MACHINES."""

import unittest
from itertools import product as all_rows

from odd_values import ODD_VALUES, variants
from placehues.errors import NoPlace, Unfit
from placehues.machines import (
    are_alike, both_of, is_machine, least, letters_in, other_way, parting_word, state_behind, takes,
)
from plain_search import (
    does_take, plain_both, plain_least, plain_parting, small_machines, some_machines, walk, words_upto,
)

ODD = (((1,), (0,)), (1,))
BEGINS = (((1, 2), (1, 1), (2, 2)), (1,))
ALL, NONE = (((0, 0),), (0,)), (((0, 0),), ())
# a ring of twelve STATES: letter 1 goes on, 2 goes back, 3 begins anew
RING = (tuple([((at + 1) % 12, (at + 11) % 12, 0) for at in range(12)]), (5,))
# STATES 2 to 4 are never come to
APART = (((1,), (0,), (3,), (2,), (0,)), (1, 2, 4))


def some_small_machines():
    yield from small_machines(1, 1)
    yield from small_machines(1, 3)
    yield from small_machines(2, 1)
    yield from small_machines(2, 2)
    yield from small_machines(3, 1)
    yield from some_machines(150, 3, 2, 1)
    yield from some_machines(40, 4, 2, 2)
    yield from some_machines(40, 3, 3, 3)
    yield from some_machines(60, 7, 1, 4)


class Things(unittest.TestCase):
    def test_machines(self):
        for thing in (
            ODD, BEGINS, ALL, NONE, RING, APART, (((0,),), ()), (((0,),), (0,)), (((0, 0, 0, 0),), ()),
            (((1,), (1,)), (0, 1)), (tuple([(at, 0) for at in range(5000)]), tuple(range(5000))),
        ):
            self.assertIs(is_machine(thing), True)

    def test_no_machines(self):
        for thing in (
            ((), ()), (((),), ()), (((), ()), ()), (((0,), (0, 0)), ()), (((0, 0), (0,)), ()), (((1,),), ()),
            (((-1,),), ()), (((0,), (2,)), ()), (((10 ** 400,),), ()), (((0,),), (1,)), (((0,),), (-1,)),
            (((0,), (0,)), (1, 0)), (((0,), (0,)), (0, 0)), (((0,), (0,)), (0, 1, 1)), (((0,), (0,)), (0, 1, 2)),
            (((False,),), ()), (((0,), (True,)), ()), (((0,),), (False,)), (((0,), (0,)), (0, True)), ((0,), ()),
            (((0,),),), (((0,),), (), ()), [((0,),), ()], ([(0,)], ()), (([0],), ()), (((0,),), []),
            (((0,),), 0), (((0,),), None), (((0,),), ""), (("0",), ()), ((((0,),),), ()), (((None,),), ()),
            (((0,),), ((),)), (((0,), None), ()), (((0,), ()), ()), (((0,),), (10 ** 400,)), (1, ()),
        ):
            with self.subTest(repr(thing)[:60]):
                self.assertIs(is_machine(thing), False)

    def test_any_value(self):
        for thing in ODD_VALUES:
            self.assertIs(is_machine(thing), False)

    def test_nearly_a_machine(self):
        for thing in variants(BEGINS):
            with self.subTest(repr(thing)):
                self.assertIs(is_machine(thing), thing == (BEGINS[0], ()) and isinstance(thing[1], tuple))


class Taking(unittest.TestCase):
    def test_letters(self):
        self.assertEqual([letters_in(own) for own in (ODD, BEGINS, RING)], [1, 2, 3])

    def test_words(self):
        for machine in (ODD, BEGINS, RING, APART, ALL, NONE):
            for word in words_upto(len(machine[0][0]), 4):
                self.assertEqual(state_behind(machine, word), walk(machine, 0, word))
                self.assertIs(takes(machine, word), does_take(machine, word))

    def test_nothing_is_read(self):
        self.assertEqual(state_behind(RING, ()), 0)
        self.assertIs(takes(RING, ()), False)
        self.assertIs(takes(ALL, ()), True)

    def test_long_words(self):
        self.assertIs(takes(RING, (1,) * 53 + (2,) * 7 + (3,) * 0), False)
        self.assertEqual(state_behind(RING, (1,) * 50 + (2,) * 10), 4)
        self.assertEqual(state_behind(RING, (1,) * 54 + (3,) + (1,) * 5), 5)
        self.assertIs(takes(ODD, (1,) * 59), True)

    def test_the_first_letter_that_is_not_there(self):
        for word, place in (((2,), 2), ((1, 3, 2), 3), ((1, 1, 2, 3), 2), ((10 ** 30,), 10 ** 30)):
            for function in (state_behind, takes):
                with self.assertRaises(NoPlace) as caught:
                    function(ODD, word)
                self.assertEqual(caught.exception.place, place)
        with self.assertRaises(NoPlace) as caught:
            takes(BEGINS, (2, 1, 3, 4))
        self.assertEqual(caught.exception.place, 3)


class Least(unittest.TestCase):
    def test_beside_a_plain_search(self):
        for machine in some_small_machines():
            with self.subTest(machine):
                self.assertEqual(least(machine), plain_least(machine))

    def test_guarantees(self):
        for machine in some_machines(300, 12, 3, 5):
            own = least(machine)
            self.assertTrue(is_machine(own))
            self.assertEqual(least(own), own)
            self.assertIsNone(parting_word(machine, own))
            self.assertLessEqual(len(own[0]), 12)

    def test_fewer_states_are_not_enough(self):
        for machine in some_machines(60, 3, 1, 6):
            for other in small_machines(len(least(machine)[0]) - 1, 1) if len(least(machine)[0]) > 1 else ():
                self.assertIsNotNone(plain_parting(machine, other))

    def test_all_or_no_ends(self):
        states = tuple(range(12))
        self.assertEqual(least((RING[0], states)), (((0, 0, 0),), (0,)))
        self.assertEqual(least((RING[0], ())), (((0, 0, 0),), ()))

    def test_states_that_are_never_come_to(self):
        self.assertEqual(least(APART), ODD)
        self.assertEqual(least((((0,), (0,)), (1,))), (((0,),), ()))

    def test_numbering(self):
        # 2 is first come to by (1,), 1 by (2,)
        self.assertEqual(least((((2, 1), (1, 1), (2, 0)), (1,))), (((1, 2), (1, 0), (2, 2)), (2,)))

    def test_many_states(self):
        for many in (60, 144, 997):
            steps = tuple([((at + 1) % many, at) for at in range(many)])
            self.assertEqual(least((steps, (0,))), (steps, (0,)))
        chain = tuple([(min(at + 1, 700),) for at in range(701)])
        self.assertEqual(least((chain, (700,))), (chain, (700,)))


class Two(unittest.TestCase):
    def test_beside_a_plain_search(self):
        for rows in (
            list(small_machines(2, 1)), list(some_machines(40, 3, 2, 7)), list(some_machines(12, 2, 3, 8)),
            list(some_machines(20, 2, 2, 9)) + list(some_machines(20, 3, 2, 10)), list(some_machines(30, 6, 1, 11)),
        ):
            for one, other in list(zip(rows, rows[1:])) + [(own, own) for own in rows[:3]]:
                with self.subTest((one, other)):
                    parting = plain_parting(one, other)
                    self.assertEqual(parting_word(one, other), parting)
                    self.assertIs(are_alike(one, other), parting is None)
                    self.assertEqual(both_of(one, other), plain_both(one, other))

    def test_alike(self):
        for machine in some_machines(50, 5, 2, 12):
            self.assertIs(are_alike(machine, least(machine)), True)
            self.assertIs(are_alike(machine, other_way(machine)), False)
            self.assertEqual(parting_word(machine, other_way(machine)), ())

    def test_the_least_of_the_shortest(self):
        # both (1, 2) and (2, 1) part them, and nothing shorter
        one = (((1, 2), (3, 4), (5, 3), (3, 3), (3, 3), (3, 3)), (4, 5))
        self.assertEqual(parting_word(one, NONE), (1, 2))
        self.assertEqual(parting_word(NONE, one), (1, 2))

    def test_a_long_parting_word(self):
        one = (tuple([((at + 1) % 12, 0) for at in range(12)]), (0,))
        other = (tuple([((at + 1) % 11, 0) for at in range(11)]), (0,))
        self.assertEqual(parting_word(one, other), (1,) * 11)
        self.assertEqual(len(both_of(one, other)[0]), 132)
        self.assertEqual(len(both_of(both_of(one, other), ALL)[0]), 132)

    def test_other_letters_ahead_of_all(self):
        for one, other in ((ODD, BEGINS), (BEGINS, ODD), (BEGINS, RING), (RING, ODD)):
            for function in (are_alike, parting_word, both_of):
                with self.assertRaises(Unfit):
                    function(one, other)

    def test_other_way(self):
        self.assertEqual(other_way(ODD), (ODD[0], (0,)))
        self.assertEqual(other_way(ALL), NONE)
        self.assertEqual(other_way(NONE), ALL)
        self.assertEqual(other_way(APART), (APART[0], (0, 3)))
        self.assertEqual(repr(other_way([[[1], [0]], [1]])), "(((1,), (0,)), (0,))")

    def test_both_and_other_way_are_machines(self):
        rows = list(some_machines(30, 12, 2, 13))
        for one, other in zip(rows, rows[1:]):
            both = both_of(one, other)
            self.assertTrue(is_machine(both) and is_machine(other_way(one)))
            for word in all_rows((1, 2), repeat=6):
                self.assertIs(takes(both, word), takes(one, word) and takes(other, word))
                self.assertIs(takes(other_way(one), word), not takes(one, word))


if __name__ == "__main__":
    unittest.main()
