"""[12]: deals, slots, and BOOKS that tell too little."""

import unittest
from itertools import permutations
from itertools import product as all_rows
from random import Random

from calls import refused
from odd_values import ODD_VALUES, variants
from placehues.centres import exponent
from placehues.made import hue_book
from placehues.slots import dealt, gap_place, is_deal, is_like_deals, like_deals, slots, told_too_little
from placehues.told import goes_by, told_of
from placehues.words import is_history, is_word
from plain_books import (
    PARITY, SIDES, dull_book, plain_parts, plain_reads, plain_stands, plain_text, some_book, some_books,
)
from plain_groups import (
    ALL, BIG, EVEN, FIVE, FULL, GROUPS, NO_GROUPS, OCTAGON, ODD, PlainGroup, QUATERNIONS, RING, SQUARE,
    SQUARE_OF_THREE, THREE, small_groups,
)
from plain_search import then

TURNED, ONE_OR_NONE = (((0, 1), (1, 2)), ((1, 1), (0, 2))), (((0, 1),), ((0, 0),))
APART = [THREE, SQUARE, SQUARE_OF_THREE, QUATERNIONS, OCTAGON, EVEN, FULL]


def all_deals(letters, longest):
    for many in range(1, longest + 1):
        for spots in permutations(range(many)):
            for row in all_rows(range(letters + 1), repeat=many):
                yield tuple(zip(spots, row))


def plain_dealt(deal):
    letters = dict(deal)
    return plain_reads([letters[spot] for spot in range(len(deal))])


def plain_like(own, word, one, other):
    """Whether two DEALS look alike and are apart."""
    if len(one) != len(other):
        return False
    if word == "letters" and [letter for _, letter in one] != [letter for _, letter in other]:
        return False
    return own.lot_of(own.doing(plain_dealt(one))) != own.lot_of(own.doing(plain_dealt(other)))


class Deals(unittest.TestCase):
    def test_what_is_one(self):
        for deal in all_deals(2, 3):
            self.assertIs(is_deal(deal), True)
            self.assertEqual(dealt(deal), plain_dealt(deal))
            self.assertIs(is_word(dealt(deal)), True)
        self.assertIs(is_deal(((0, 10 ** 400),)), True)
        self.assertEqual(dealt(((2, 1), (0, 3), (1, 0), (3, 3))), (3, 1, 3))

    def test_what_is_none(self):
        for thing in (
            (), ((1, 1),), ((0, 1), (0, 1)), ((0, 1), (2, 1)), ((0, -1),), ((-1, 1), (0, 1)), ((0, 1, 1),), ((0,),),
            [(0, 1)], ([0, 1],), ((False, 1),), ((0, True),), ((0, None),), ((0, 1), (1,)), (0, 1), ((0, 1), (1, 1), (1, 1)),
            ((0, 1), (10 ** 400, 1)), None, "01", ((0, 1), None), ((0, "1"),),
        ):
            self.assertIs(is_deal(thing), False, thing)

    def test_any_value(self):
        for thing in ODD_VALUES:
            self.assertIs(is_deal(thing), False)
            self.assertIs(is_deal(((0, thing),)), type(thing) is int and thing >= 0)

    def test_nearly(self):
        for thing in variants(((1, 1), (0, 2))):
            expected = type(thing) is tuple and len(thing) == 2 and all(
                type(own) is tuple and len(own) == 2 and all(type(n) is int and n >= 0 for n in own)
                for own in thing) and sorted([own[0] for own in thing]) == [0, 1]
            self.assertIs(is_deal(thing), expected)

    def test_many_spots(self):
        many = 20000
        deal = tuple([(many - 1 - at, at % 3) for at in range(many)])
        self.assertIs(is_deal(deal), True)
        self.assertEqual(dealt(deal), plain_dealt(deal))
        self.assertIs(is_deal(deal[:-1]), False)


class LikeDeals(unittest.TestCase):
    def test_there_are_some(self):
        for machine in list(small_groups()) + [FULL]:
            own = PlainGroup(machine)
            there = {"side": own.class_of() not in (0, 1), "letters": own.class_of() not in (0, 1, 2)}
            for word, some in there.items():
                with self.subTest(machine, word=word):
                    if not some:
                        self.assertEqual(refused(like_deals, machine, word), "CanNot")
                        continue
                    one, other = like_deals(machine, word)
                    self.assertIs(is_deal(one) and is_deal(other), True)
                    self.assertIs(plain_like(own, word, one, other), True)
                    self.assertIs(is_like_deals(machine, word, (one, other)), True)

    def test_of_short_deals(self):
        seen = {True: 0, False: 0}
        for machine in (THREE, SQUARE, ODD):
            own = PlainGroup(machine)
            deals = list(all_deals(own.letters, 2))
            for one, other in all_rows(deals, repeat=2):
                for word in ("side", "letters"):
                    expected = plain_like(own, word, one, other)
                    seen[expected] += 1
                    self.assertIs(is_like_deals(machine, word, (one, other)), expected)
        self.assertGreater(seen[True], 100)

    def test_letters_that_are_not_there(self):
        self.assertIs(is_like_deals(THREE, "side", (((0, 3),), ((0, 0),))), False)
        self.assertIs(is_like_deals(THREE, "side", (((0, 1),), ((0, 3),))), False)
        self.assertIs(is_like_deals(THREE, "side", (((0, 1),), ((0, 10 ** 400),))), False)
        self.assertIs(is_like_deals(THREE, "side", ONE_OR_NONE), True)

    def test_any_value(self):
        for thing in ODD_VALUES:
            for word in ("side", "letters"):
                self.assertIs(is_like_deals(THREE, word, thing), False)
                self.assertIs(is_like_deals(THREE, word, (ONE_OR_NONE[0], thing)), False)
                self.assertIs(is_like_deals(THREE, word, (thing, ONE_OR_NONE[0])), False)

    def test_nearly(self):
        own = PlainGroup(THREE)
        for pair in (TURNED, ONE_OR_NONE):
            for thing in variants(pair):
                fit = type(thing) is tuple and len(thing) == 2 and all(is_deal(deal) for deal in thing)
                fit = fit and all(letter <= 2 for deal in thing for _, letter in deal)
                for word in ("side", "letters"):
                    expected = fit and plain_like(own, word, *thing)
                    self.assertIs(is_like_deals(THREE, word, thing), expected, thing)

    def test_long_deals(self):
        many = 5001
        one = tuple([(at, 1) for at in range(many)])
        other = tuple([(at, 0) for at in range(many)])
        self.assertIs(is_like_deals(THREE, "side", (one, other)), True)
        self.assertIs(is_like_deals(THREE, "letters", (one, other)), False)
        self.assertIs(is_like_deals(THREE, "side", (one, other[:-1])), False)


class Slots(unittest.TestCase):
    def plain_slots(self, n, deals, bits, around):
        """Place by place, as they are told."""
        places, gaps, changes = around[0], [], []
        for bit in bits:
            for stretch in range(n):
                changes += [(places + spot, letter) for spot, letter in deals[bit]]
                places += len(deals[bit])
                if stretch == 0:
                    gaps.append(places)
                    places += 1
        return (places + around[1], tuple(changes)), gaps

    def test_as_told(self):
        for machine in (ODD, THREE, SQUARE, RING, ALL):
            for deals in (TURNED, ONE_OR_NONE, (((1, 1), (2, 0), (0, 2)), ((0, 0), (1, 0), (2, 1)))):
                for many in (1, 2, 3):
                    for bits in all_rows((0, 1), repeat=many):
                        for around in ((0, 0), (1, 2), (3, 0)):
                            expected, gaps = self.plain_slots(exponent(machine), deals, bits, around)
                            self.assertEqual(slots(machine, deals, bits, around), expected)
                            self.assertIs(is_history(expected), True)
                            found = [gap_place(machine, deals, around, number) for number in range(many)]
                            self.assertEqual(found, gaps)

    def test_one_stretch(self):
        # the exponent is 1: a slot is a stretch and a gap
        self.assertEqual(slots(ALL, ONE_OR_NONE, (0, 1), (0, 0)), (4, ((0, 1), (2, 0))))
        self.assertEqual(gap_place(ALL, ONE_OR_NONE, (0, 0), 1), 3)

    def test_they_read_one(self):
        for machine in (THREE, SQUARE, QUATERNIONS, EVEN):
            own = PlainGroup(machine)
            for bits in all_rows((0, 1), repeat=3):
                history = slots(machine, TURNED, bits, (1, 1))
                self.assertEqual(own.read(plain_text(history)), own.one)
                for number, bit in enumerate(bits):
                    gap = gap_place(machine, TURNED, (1, 1), number)
                    self.assertEqual(plain_text(history)[gap], 0)
                    self.assertEqual(own.read(plain_text(history)[:gap]), own.doing(dealt(TURNED[bit])))

    def test_free_places_have_the_same_hues(self):
        for word, deals in (("side", ONE_OR_NONE), ("side", TURNED), ("letters", TURNED)):
            for book in some_books(12, 20, word, (2,)):
                seen = set()
                for bits in all_rows((0, 1), repeat=3):
                    history = slots(THREE, deals, bits, (2, 2))
                    hues = plain_stands(book, history)[-1][1]
                    changed = {place for place, _ in history[1]}
                    seen.add(tuple([hue for place, hue in enumerate(hues) if place not in changed]))
                self.assertEqual(len(seen), 1)


class ToldTooLittle(unittest.TestCase):
    def part(self, book, machine):
        history = told_too_little(book, machine)
        self.assertIs(is_history(history), True)
        self.assertLessEqual(max([letter for _, letter in history[1]]), len(machine[0][0]))
        self.assertIs(plain_parts(book, machine, history), True)

    def test_all_that_tell_too_little(self):
        mixed = Random(21)
        seen = {True: 0, False: 0}
        for machine in APART + [RING, ODD, ALL]:
            own = PlainGroup(machine)
            for going_by in ("all", "nobody", "blind", "side", "letters", "flag"):
                for _ in range(6):
                    book = some_book(mixed, own.letters, going_by, 4)
                    little = own.class_of() not in (0, 1) and any(
                        goes_by(book, word) for word in ("nobody", "blind", "side"))
                    little = little or own.class_of() not in (0, 1, 2) and goes_by(book, "letters")
                    seen[little] += 1
                    if little:
                        self.part(book, machine)
                    else:
                        self.assertEqual(refused(told_too_little, book, machine), "CanNot")
        self.assertGreater(min(seen.values()), 50)

    def test_of_class_three(self):
        for book in some_books(20, 22, "letters", (2,)):
            self.part(book, OCTAGON)

    def test_many_flags(self):
        # the FLAG tells what DOING all had if nothing stood ahead of what is changed
        own = PlainGroup(THREE)
        still = (0, 1, 2)
        rows = tuple([tuple([tuple([
            (own.all.index(then(own.turn(own.one, old, new), one)), new, still, still)
            for new in still]) for old in still]) for one in own.all])
        self.part((tuple([own.is_taken(one) for one in own.all]), still, (0, 0), rows), THREE)
        # the FLAG mixes up all that was put, in its order, and what stands left of it is told that something is put
        hues, swap, still = (0, 0, 1, 2), (1, 0, 2, 3), (0, 1, 2, 3)
        tos = (0, 2, 3)
        rows = tuple([
            (tuple([((3 * flag + new) % 23, tos[new], swap, still) for new in range(3)]),) * 4 for flag in range(23)])
        for machine in APART:
            if len(machine[0][0]) == 2:
                for begin in range(23):
                    book = (tuple([flag % 3 == 0 for flag in range(23)]), hues, (begin, 0), rows)
                    self.assertEqual(told_of(book), ("all", "flag", "letters", "side"))
                    self.part(book, machine)
        mixed = Random(23)
        for machine in (THREE, SQUARE, EVEN, FULL):
            for going_by in ("nobody", "side", "letters", "blind"):
                book = some_book(mixed, 2, going_by, 3)
                while len(book[0]) < 20:
                    book = some_book(mixed, 2, going_by, 24)
                if machine == SQUARE and not any(goes_by(book, word) for word in ("nobody", "side", "blind")):
                    self.assertEqual(refused(told_too_little, book, machine), "CanNot")
                else:
                    self.part(book, machine)

    def test_right_books(self):
        for machine in (THREE, SQUARE, QUATERNIONS, ODD, RING):
            self.assertEqual(refused(told_too_little, hue_book(machine), machine), "CanNot")
        self.assertEqual(refused(told_too_little, PARITY, ODD), "CanNot")
        self.assertEqual(refused(told_too_little, SIDES, ODD), "CanNot")


class Refusals(unittest.TestCase):
    def test_too_much_then_no_group(self):
        for machine, told in [(BIG, "TooMuch"), (FIVE, "TooMuch")] + [(own, "Unfit") for own in NO_GROUPS]:
            for word in ("side", "letters"):
                self.assertEqual(refused(like_deals, machine, word), told)
                self.assertEqual(refused(is_like_deals, machine, word, None), told)
                self.assertEqual(refused(is_like_deals, machine, word, ONE_OR_NONE), told)
            self.assertEqual(refused(slots, machine, ONE_OR_NONE, (0, 1), (0, 0)), told)
            self.assertEqual(refused(gap_place, machine, ONE_OR_NONE, (0, 0), 1), told)
            book = dull_book(len(machine[0][0]), True)
            self.assertEqual(refused(told_too_little, book, machine), told)

    def test_commuting(self):
        for machine in GROUPS:
            if PlainGroup(machine).class_of() in (0, 1):
                for yes in (True, False):
                    book = dull_book(len(machine[0][0]), yes)
                    self.assertEqual(refused(told_too_little, book, machine), "CanNot")


if __name__ == "__main__":
    unittest.main()
