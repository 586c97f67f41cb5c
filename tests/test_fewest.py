"""[11]: the fewest HUES, spreads and crowds."""

import unittest
from random import Random

from calls import refused
from odd_values import ODD_VALUES, variants
from placehues.doings import word_for
from placehues.fewest import (
    crowd_of, crowd_parting, fewest_hues, has_enough, hues_of, is_crowd, is_parting, spread_for,
)
from placehues.made import hue_book
from placehues.words import is_history
from plain_books import (
    PARITY, SIDES, all_histories, dull_book, plain_parts, plain_stands, plain_text, some_book, some_books,
    some_history,
)
from plain_groups import (
    ALL, BIG, EVEN, FIVE, FIRST, FULL, GROUPS, NO_GROUPS, OCTAGON, ODD, PlainGroup, QUATERNIONS, RING, SOME, SQUARE,
    SQUARE_OF_THREE, THREE, small_groups,
)
from plain_search import then

APART = [THREE, SQUARE, SQUARE_OF_THREE, QUATERNIONS, OCTAGON, EVEN, FULL]
CROWD = ((3, ((1, 1),)), 0, 2)
DULL = dull_book(2, True)


def letters_of(machine):
    return len(machine[0][0])


def plain_is_crowd(book, own, history, one, other):
    hues, text = plain_stands(book, history)[-1][1], plain_text(history)
    if hues[one] != hues[other]:
        return False
    return own.lot_of(own.read(text[:one])) != own.lot_of(own.read(text[:other]))


class Hues(unittest.TestCase):
    def test_how_many(self):
        for book in some_books(60, 1) + [PARITY, SIDES, DULL]:
            expected = tuple([list(book[1]).count(letter) for letter in range(max(book[1]) + 1)])
            self.assertEqual(hues_of(book), expected)
        self.assertEqual(hues_of(SIDES), (2, 2))
        self.assertEqual(hues_of(hue_book(SQUARE)), (4, 4, 4))

    def test_lots(self):
        for machine in small_groups():
            self.assertEqual(fewest_hues(machine), len(PlainGroup(machine).lots))
        self.assertEqual([fewest_hues(own) for own in (ALL, RING, FULL, OCTAGON)], [1, 1, 24, 8])

    def test_enough(self):
        mixed = Random(2)
        seen = set()
        for machine in GROUPS:
            if len(machine[0]) > 4:
                continue
            for _ in range(30):
                book = some_book(mixed, letters_of(machine), "all", 2, 14)
                expected = all(own >= len(PlainGroup(machine).lots) for own in hues_of(book))
                self.assertIs(has_enough(book, machine), expected)
                seen.add(expected)
            if refused(hue_book, machine) is None:
                self.assertIs(has_enough(hue_book(machine), machine), True)
        self.assertEqual(seen, {True, False})


class Spreads(unittest.TestCase):
    def test_as_told(self):
        for machine in small_groups():
            own = PlainGroup(machine)
            for letter in range(own.letters + 1):
                text, places = [], []
                for lot in own.lots:
                    ahead = own.read(text)
                    text.extend(word_for(machine, then(own.opposites[ahead], lot[0])))
                    self.assertEqual(own.read(text), lot[0])
                    places.append(len(text))
                    text.append(letter)
                self.assertEqual(spread_for(machine, letter), (tuple(text), tuple(places)))

    def test_by_hand(self):
        self.assertEqual(spread_for(ALL, 3), ((3,), (0,)))
        self.assertEqual(spread_for(RING, 0), ((0,), (0,)))
        text, places = spread_for(FULL, 1)
        self.assertEqual(len(places), 24)
        self.assertEqual({text[place] for place in places}, {1})

    def test_no_letter(self):
        for letter in (3, 4, 10 ** 400, -1):
            self.assertEqual(refused(spread_for, THREE, letter), "NoPlace(%s)" % letter)
        for letter in (0, 1, 2):
            self.assertEqual(refused(spread_for, THREE, letter), None)


class Crowds(unittest.TestCase):
    def test_of_spreads(self):
        mixed = Random(3)
        found = {"CanNot": 0, None: 0}
        for machine in APART + [RING, ODD]:
            own = PlainGroup(machine)
            for _ in range(12):
                book = some_book(mixed, own.letters, mixed.choice(("all", "letters", "flag", "side")), 3, 12)
                for letter in range(own.letters + 1):
                    text, places = spread_for(machine, letter)
                    history = (len(text), tuple([(at, k) for at, k in enumerate(text) if k]))
                    hues = plain_stands(book, history)[-1][1]
                    pairs = [(x, y) for x in places for y in places if x < y and hues[x] == hues[y]]
                    found[refused(crowd_of, book, machine, letter)] += 1
                    if pairs:
                        self.assertEqual(crowd_of(book, machine, letter), (history,) + min(pairs))
                    else:
                        self.assertEqual(refused(crowd_of, book, machine, letter), "CanNot")
                    if hues_of(book)[letter] < len(own.lots):
                        self.assertTrue(pairs)
        self.assertGreater(found["CanNot"], 20)
        self.assertGreater(found[None], 100)

    def test_right_books_have_none(self):
        for machine in (THREE, SQUARE, QUATERNIONS):
            book = hue_book(machine)
            for letter in (0, 1, 2):
                self.assertEqual(refused(crowd_of, book, machine, letter), "CanNot")

    def test_what_is_one(self):
        seen = {True: 0, False: 0}
        for machine in (THREE, SQUARE, ODD):
            own = PlainGroup(machine)
            for book in some_books(3, 4, "all", (own.letters,)) + [dull_book(own.letters, True)]:
                for history in list(all_histories(own.letters, 3, 2)):
                    for one in range(3):
                        for other in range(3):
                            expected = one < other and plain_is_crowd(book, own, history, one, other)
                            seen[expected] += 1
                            self.assertIs(is_crowd(book, machine, (history, one, other)), expected)
        self.assertGreater(seen[True], 100)

    def test_same_lot_is_none(self):
        # two quarter turns lie between, which commute with all
        self.assertIs(is_crowd(DULL, SQUARE, ((4, ((1, 1), (2, 1))), 0, 3)), False)
        self.assertIs(is_crowd(DULL, SQUARE, ((4, ((1, 1),)), 0, 3)), True)

    def test_papers_part(self):
        mixed = Random(5)
        tried = 0
        for machine in APART + APART:
            own = PlainGroup(machine)
            for going_by in ("all", "nobody", "blind", "side", "letters", "flag"):
                book = some_book(mixed, own.letters, going_by)
                for letter in range(own.letters + 1):
                    if hues_of(book)[letter] < len(own.lots):
                        crowd = crowd_of(book, machine, letter)
                        self.assertIs(is_crowd(book, machine, crowd), True)
                        self.part(book, machine, crowd)
                        tried += 1
                for _ in range(40):
                    history = some_history(mixed, own.letters)
                    for one in range(history[0]):
                        for other in range(one + 1, history[0]):
                            if plain_is_crowd(book, own, history, one, other):
                                self.part(book, machine, (history, one, other))
                                tried += 1
        self.assertGreater(tried, 1000)

    def part(self, book, machine, crowd):
        history = crowd_parting(book, machine, crowd)
        self.assertIs(is_history(history), True)
        self.assertIs(plain_parts(book, machine, history), True)
        self.assertIs(is_parting(book, machine, history), True)

    def test_lists(self):
        self.assertEqual(crowd_parting(DULL, THREE, [[3, [[1, 1]]], 0, 2]), crowd_parting(DULL, THREE, CROWD))

    def test_many_places(self):
        crowd = ((10000, ((5000, 1),)), 17, 9999)
        self.assertIs(is_crowd(DULL, THREE, crowd), True)
        self.assertIs(is_crowd(DULL, THREE, (crowd[0], 17, 4999)), False)
        self.part(DULL, THREE, crowd)

    def test_no_crowd(self):
        for crowd in (
            ((3, ((1, 1),)), 0, 1), ((3, ((1, 1),)), 2, 0), ((3, ((1, 1),)), 0, 0), ((3, ((1, 1),)), 0, 3),
            ((3, ((1, 3),)), 0, 2), ((3, ((3, 1),)), 0, 2), ((3, ()), 0, 2), (3, 0, 2), None, (), CROWD[:2],
            ((3, ((1, 1),)), 0, True), [(3, ((1, 1),)), "0", 2], ((3, ((1, 1),)), -1, 2), ((2, ((0, 1),)), 0, 1),
            ((3, ((1, 1),)), -1, 0), ((3, ((1, 1),)), -3, 2),
        ):
            self.assertEqual(refused(crowd_parting, DULL, THREE, crowd), "Unfit")
        for book, machine in ((PARITY, ODD), (hue_book(THREE), THREE)):
            for crowd in (CROWD, ((4, ((1, 1),)), 0, 2), ((4, ((1, 1),)), 0, 3)):
                self.assertEqual(refused(crowd_parting, book, machine, crowd), "Unfit")

    def test_any_value(self):
        for thing in ODD_VALUES:
            self.assertIs(is_crowd(DULL, THREE, thing), False)
            self.assertIs(is_crowd(DULL, THREE, (CROWD[0], 0, thing)), repr(thing) == "2")
            self.assertIs(is_crowd(DULL, THREE, (CROWD[0], thing, 2)), repr(thing) == "0")
            self.assertIs(is_crowd(DULL, THREE, (thing, 0, 2)), False)

    def test_nearly(self):
        self.assertIs(is_crowd(DULL, THREE, CROWD), True)
        own = PlainGroup(THREE)
        for thing in variants(CROWD):
            if type(thing) is tuple and len(thing) == 3 and is_history(thing[0]) and repr(thing[1:]) == "(0, 2)":
                self.assertIs(is_crowd(DULL, THREE, thing), plain_is_crowd(DULL, own, *thing), thing)
            else:
                self.assertIs(is_crowd(DULL, THREE, thing), False, thing)


class Partings(unittest.TestCase):
    def test_all_short_ones(self):
        seen = {True: 0, False: 0}
        machines = [ODD, SOME, THREE, FIRST, SQUARE, (((1, 1), (1, 0)), (1,))]
        for machine in machines:
            for book in some_books(4, 6, "all", (letters_of(machine),)):
                for history in all_histories(letters_of(machine), 2, 3):
                    expected = plain_parts(book, machine, history)
                    seen[expected] += 1
                    self.assertIs(is_parting(book, machine, history), expected)
        self.assertGreater(min(seen.values()), 500)

    def test_letters_that_are_not_there(self):
        self.assertIs(is_parting(dull_book(1, True), SOME, (1, ())), True)
        for history in ((1, ((0, 2),)), (1, ((0, 2), (0, 0))), (1, ((1, 1),)), (0, ()), (1, ((0, 10 ** 400), (0, 0)))):
            self.assertIs(is_parting(dull_book(1, True), SOME, history), False)

    def test_any_machine(self):
        self.assertIs(is_parting(dull_book(3, False), BIG, (1, ())), True)
        self.assertIs(is_parting(dull_book(3, True), BIG, (1, ())), False)

    def test_any_value(self):
        for thing in ODD_VALUES:
            self.assertIs(is_parting(dull_book(1, True), ODD, thing), repr(thing) in ("(1, ())",))

    def test_nearly(self):
        book = dull_book(1, False)
        for thing in variants((2, ((0, 0), (1, 1)))):
            expected = is_history(thing) and max([k for _, k in thing[1]] + [0]) < 2 and plain_parts(book, ODD, thing)
            self.assertIs(is_parting(book, ODD, thing), expected, thing)

    def test_many_places(self):
        history = (10000, tuple([(at * 7919 % 10000, 1) for at in range(401)]))
        self.assertIs(is_parting(PARITY, ODD, history), False)
        self.assertIs(is_parting(dull_book(1, False), ODD, history), True)


class Refusals(unittest.TestCase):
    def test_letters_ahead_of_all(self):
        for machine in (BIG, FIVE, FIRST, THREE):
            book = dull_book(1, True)
            self.assertEqual(refused(has_enough, book, machine), "Unfit")
            self.assertEqual(refused(crowd_of, book, machine, 9), "Unfit")
            self.assertEqual(refused(is_crowd, book, machine, None), "Unfit")
            self.assertEqual(refused(crowd_parting, book, machine, None), "Unfit")
            self.assertEqual(refused(is_parting, book, machine, None), "Unfit")

    def test_too_much_then_no_group_then_no_letter(self):
        rows = [(BIG, "TooMuch"), (FIVE, "TooMuch")] + [(own, "Unfit") for own in NO_GROUPS]
        for machine, told in rows:
            book = dull_book(letters_of(machine), True)
            self.assertEqual(refused(fewest_hues, machine), told)
            self.assertEqual(refused(spread_for, machine, 9), told)
            self.assertEqual(refused(has_enough, book, machine), told)
            self.assertEqual(refused(crowd_of, book, machine, 9), told)
            self.assertEqual(refused(is_crowd, book, machine, None), told)
            self.assertEqual(refused(crowd_parting, book, machine, None), told)
            self.assertEqual(refused(is_parting, book, machine, None), None)

    def test_no_letter(self):
        for letter in (3, -1, 7):
            self.assertEqual(refused(crowd_of, DULL, THREE, letter), "NoPlace(%d)" % letter)
            self.assertEqual(refused(crowd_of, hue_book(THREE), THREE, letter), "NoPlace(%d)" % letter)


if __name__ == "__main__":
    unittest.main()
