"""[7]: centres, lots, rises, crosses and twists."""

import unittest
from itertools import product as all_rows

from calls import refused
from odd_values import ODD_VALUES, variants
from placehues.centres import (
    centre, class_of, cross, crosses, exponent, is_central, is_twisted, lot_of, lots, opposite, rises, twist, twisted,
    twists,
)
from plain_groups import (
    ALL, BIG, EVEN, FIVE, FULL, GROUPS, NO_GROUPS, NONE, OCTAGON, ODD, PlainGroup, RING, SQUARE, THREE,
    small_groups,
)
from plain_search import then


class BesidePlainGroups(unittest.TestCase):
    def test_what_groups_have(self):
        for machine in list(small_groups()) + [FULL]:
            own = PlainGroup(machine)
            with self.subTest(machine):
                self.assertEqual(exponent(machine), own.exponent())
                self.assertEqual(centre(machine), own.centre)
                self.assertEqual(lots(machine), own.lots)
                self.assertEqual(rises(machine), own.rises())
                self.assertEqual(class_of(machine), own.class_of())
                self.assertEqual(crosses(machine), tuple(sorted({own.cross(x, y) for x in own.all for y in own.all})))

    def test_each_doing(self):
        for machine in small_groups():
            own = PlainGroup(machine)
            for one in own.all:
                self.assertEqual(opposite(machine, one), own.opposites[one])
                self.assertEqual(lot_of(machine, one), own.lot_of(one))
                self.assertIs(is_central(machine, one), one in own.centre)

    def test_each_two(self):
        for machine in GROUPS:
            own = PlainGroup(machine)
            for one, other in all_rows(own.all, repeat=2):
                self.assertEqual(cross(machine, one, other), own.cross(one, other))

    def test_twists(self):
        for machine in (ODD, THREE, SQUARE, ALL):
            own = PlainGroup(machine)
            for many in (1, 2, 3):
                expected = {own.twist(row) for row in all_rows(own.all, repeat=many)}
                self.assertEqual(twists(machine, many), tuple(sorted(expected)))

    def test_twisted(self):
        for machine in small_groups():
            own = PlainGroup(machine)
            letters = range(1, own.letters + 1)
            for many in (1, 2, 3, 4):
                rows = [row for row in all_rows(letters, repeat=many)
                        if own.twist([own.letter(k) for k in row]) != own.one]
                with self.subTest(machine, many=many):
                    if rows:
                        self.assertEqual(twisted(machine, many), rows[0])
                    else:
                        self.assertEqual(refused(twisted, machine, many), "CanNot")
                        self.assertLess(own.class_of(), many)

    def test_twist_of_words(self):
        words = [(), (1,), (2,), (1, 2), (2, 1, 1), (1, 1)]
        for machine in (THREE, SQUARE, OCTAGON):
            own = PlainGroup(machine)
            for many in (1, 2, 3):
                for row in all_rows(words, repeat=many):
                    expected = own.twist([own.doing(word) for word in row])
                    self.assertEqual(twist(machine, row), expected)
                    self.assertIs(is_twisted(machine, many, row), expected != own.one)


class Centres(unittest.TestCase):
    def test_one_doing_alone(self):
        for machine in (ALL, NONE):
            self.assertEqual(opposite(machine, (0,)), (0,))
            self.assertEqual((exponent(machine), centre(machine), lots(machine)), (1, ((0,),), (((0,),),)))
            self.assertEqual((rises(machine), class_of(machine), crosses(machine)), ([((0,),)], 0, ((0,),)))
            self.assertEqual(twists(machine, 12), ((0,),))
            self.assertEqual(refused(twisted, machine, 1), "CanNot")

    def test_commuting(self):
        self.assertEqual(class_of(RING), 1)
        self.assertEqual([len(own) for own in rises(RING)], [1, 12])
        self.assertEqual((exponent(RING), len(lots(RING)), twisted(RING, 1)), (12, 1, (1,)))
        self.assertEqual(refused(twisted, RING, 2), "CanNot")

    def test_class_of_three(self):
        self.assertEqual(class_of(OCTAGON), 3)
        self.assertEqual([len(own) for own in rises(OCTAGON)], [1, 2, 4, 16])
        self.assertEqual((len(lots(OCTAGON)), len(crosses(OCTAGON)), exponent(OCTAGON)), (8, 4, 8))
        self.assertEqual([len(twists(OCTAGON, many)) for many in (1, 2, 3, 4, 12)], [16, 4, 2, 1, 1])
        self.assertEqual(twisted(OCTAGON, 3), (1, 2, 2))
        self.assertEqual(refused(twisted, OCTAGON, 4), "CanNot")

    def test_no_class(self):
        for machine, many in ((THREE, 3), (EVEN, 4), (FULL, 12)):
            self.assertIs(class_of(machine), None)
            self.assertEqual(len(twists(machine, 12)), many)
        self.assertEqual([len(own) for own in rises(FULL)], [1, 2])
        self.assertEqual(len(lots(FULL)), 24)

    def test_twelve_words(self):
        for machine in (THREE, FULL, EVEN):
            row = twisted(machine, 12)
            self.assertEqual(len(row), 12)
            words = tuple([(letter,) for letter in row])
            self.assertIs(is_twisted(machine, 12, words), True)
            own = PlainGroup(machine)
            self.assertEqual(twist(machine, words), own.twist([own.letter(letter) for letter in row]))
        self.assertEqual(twisted(THREE, 12), (1, 2) + (1,) * 10)

    def test_twisted_is_the_least(self):
        # letter 1 does nothing
        machine = (((0, 1, 0), (1, 0, 2), (2, 2, 1)), (0,))
        self.assertEqual(twisted(machine, 1), (2,))
        self.assertEqual(twisted(machine, 2), (2, 3))
        self.assertEqual(twisted(machine, 3), (2, 3, 2))


class Refusals(unittest.TestCase):
    def test_too_much_then_no_group(self):
        whole = (exponent, centre, lots, rises, class_of, crosses)
        for machine, told in [(BIG, "TooMuch"), (FIVE, "TooMuch")] + [(own, "Unfit") for own in NO_GROUPS]:
            for function in whole:
                self.assertEqual(refused(function, machine), told)
            for one in ((1, 0), (), None, (0, 1, 2)):
                for function in (opposite, lot_of, is_central):
                    self.assertEqual(refused(function, machine, one), told)
                self.assertEqual(refused(cross, machine, one, one), told)
            self.assertEqual(refused(twist, machine, ((9,),)), told)
            self.assertEqual(refused(twists, machine, 2), told)
            self.assertEqual(refused(twisted, machine, 2), told)
            self.assertEqual(refused(is_twisted, machine, 2, None), told)

    def test_no_doing(self):
        good = (1, 0, 2)
        for one in ((0, 0, 0), (1, 2, 1), (), (0,), (0, 1, 2, 3), (1, 0), (-1, 0, 1), (0, 1, True), [1, 0], None):
            for function in (opposite, lot_of, is_central):
                self.assertEqual(refused(function, THREE, one), "Unfit")
            self.assertEqual(refused(cross, THREE, one, good), "Unfit")
            self.assertEqual(refused(cross, THREE, good, one), "Unfit")
        # a turn of four corners that the machine does not make
        self.assertEqual(refused(opposite, SQUARE, (1, 0, 2, 3)), "Unfit")

    def test_no_letter(self):
        for words, place in (
            (((3,),), 3), (((1, 2), (2, 5, 3), (4,)), 5), (((), (1, 1), (2, 1, 7)), 7), (((1,),) * 11 + ((3, 4),), 3),
        ):
            self.assertEqual(refused(twist, THREE, words), "NoPlace(%d)" % place)


class Things(unittest.TestCase):
    def test_any_value(self):
        for thing in ODD_VALUES:
            for many in (1, 2, 3):
                with self.subTest(repr(thing)[:60], many=many):
                    words = isinstance(thing, tuple) and len(thing) == many and all(
                        isinstance(word, tuple) and all(type(own) is int and 1 <= own <= 2 for own in word)
                        for word in thing)
                    own = PlainGroup(SQUARE)
                    expected = words and own.twist([own.doing(word) for word in thing]) != own.one
                    self.assertIs(is_twisted(SQUARE, many, thing), expected)

    def test_nearly(self):
        thing = ((1, 1, 1), (2,))
        self.assertIs(is_twisted(SQUARE, 2, thing), True)
        for other in variants(thing):
            with self.subTest(repr(other)):
                self.assertIs(is_twisted(SQUARE, 2, other), False)

    def test_how_many(self):
        for many in (1, 2, 3):
            for have in (1, 2, 3):
                thing = tuple([(1 + at % 2,) for at in range(have)])
                self.assertIs(is_twisted(THREE, many, thing), many == have)

    def test_letters_that_are_not_there(self):
        for word in ((3,), (0,), (-1,), (10 ** 400,), (1, 3), (True,)):
            self.assertIs(is_twisted(THREE, 2, (word, (1,))), False)
            self.assertIs(is_twisted(THREE, 2, ((1,), word)), False)

    def test_long_words(self):
        self.assertIs(is_twisted(SQUARE, 2, ((1,) * 40001, (2,) * 30001)), True)
        self.assertIs(is_twisted(SQUARE, 2, ((1,) * 40002, (2,) * 30001)), False)


class Guarantees(unittest.TestCase):
    def test_lots(self):
        for machine in small_groups():
            told = lots(machine)
            self.assertEqual({len(lot) for lot in told}, {len(centre(machine))})
            self.assertEqual(sorted([one for lot in told for one in lot]), list(PlainGroup(machine).all))

    def test_rises_lie_within(self):
        for machine in small_groups():
            own = rises(machine)
            for inner, outer in zip(own, own[1:]):
                self.assertLess(set(inner), set(outer))

    def test_crosses_tell_what_commutes(self):
        for machine in GROUPS:
            own = PlainGroup(machine)
            for one, other in all_rows(own.all[:12], repeat=2):
                same = then(one, other) == then(other, one)
                self.assertEqual(cross(machine, one, other) == own.one, same)


if __name__ == "__main__":
    unittest.main()
