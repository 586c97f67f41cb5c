"""[3], [9]: what BOOKS tell the places that are not changed."""

import unittest
from itertools import product as all_rows
from random import Random

from calls import refused
from odd_values import ODD_VALUES, variants
from placehues.books import is_book
from placehues.made import hue_book, parts_for
from placehues.told import goes_by, is_parts, levels_for, told_for, told_of
from plain_books import PARITY, SIDES, dull_book, some_books, some_map
from plain_groups import BIG, FIVE, NO_GROUPS, OCTAGON, PlainGroup, RING, SQUARE, THREE, small_groups

WORDS = ("all", "blind", "flag", "letters", "nobody", "side")
STILL = (0, 1)
TOUCHED = ((True,), (0, 0, 1), (0, 0), tuple([
    tuple([tuple([(0, 2 * t, (1, 0, 2), (0, 1, 2)) for t in (0, 1)]) for h in (0, 1, 2)])]))


def rows_of(book):
    """(FLAG, own HUE, new letter, ROW) of all ROWS."""
    return [(f, h, t, row) for f, lines in enumerate(book[3]) for h, line in enumerate(lines)
            for t, row in enumerate(line)]


def plain_goes_by(book, word):
    """Each ROW is laid beside each other one."""
    rows, hues = rows_of(book), book[1]
    still = tuple(range(len(hues)))
    if word == "all":
        return True
    if word == "nobody":
        return all(row[2] == still and row[3] == still for _, _, _, row in rows)
    if word == "blind":
        return all(row[2] == row[3] for _, _, _, row in rows)

    def beside(f, h, t, row, other_f, other_h, other_t, other):
        if word == "side":
            return True
        if word == "letters":
            return hues[h] == hues[other_h] and t == other_t
        return f == other_f and row[0] == other[0]

    return all(one[3][2:] == other[3][2:] for one in rows for other in rows if beside(*one, *other))


def plain_is_parts(book, parts):
    """Each place of each map is laid beside each other one."""
    hues = book[1]
    if not all(parts[g] != parts[h] for g in range(len(hues)) for h in range(g) if hues[g] == hues[h]):
        return False
    for i in range(len(parts[0])):
        found = []
        for f, h, t, row in rows_of(book):
            for side in (2, 3):
                for g, after in enumerate(row[side]):
                    hangs_on = (side, hues[h], t, hues[g], parts[g][i:], parts[h][i + 1:])
                    found.append((hangs_on, parts[after][i]))
        if any(one != other for told, one in found for again, other in found if told == again):
            return False
    return True


def other_row(book, mixed):
    """book with one map of one ROW made anew."""
    f, h, t, row = mixed.choice(rows_of(book))
    at = mixed.choice((2, 3))
    row = row[:at] + (some_map(mixed, book[1]),) + row[at + 1:]
    lines = [list(line) for line in book[3][f]]
    lines[h][t] = row
    rows = book[3][:f] + (tuple([tuple(line) for line in lines]),) + book[3][f + 1:]
    return book[:3] + (rows,)


class Words(unittest.TestCase):
    def books(self):
        mixed = Random(30)
        for seed, word in enumerate(WORDS):
            for book in some_books(25, seed, word):
                yield book
                yield other_row(book, mixed)
        yield from (PARITY, SIDES, TOUCHED, dull_book(2, True))

    def test_beside_each_two_rows(self):
        for book in self.books():
            self.assertIs(is_book(book), True)
            expected = tuple([word for word in WORDS if plain_goes_by(book, word)])
            self.assertEqual(told_of(book), expected)
            for word in WORDS:
                self.assertIs(goes_by(book, word), word in expected)

    def test_books_made_so(self):
        for seed, word in enumerate(WORDS):
            for book in some_books(10, 50 + seed, word):
                self.assertIs(goes_by(book, word), True)

    def test_one_word_each(self):
        """A BOOK for each word, that goes by it and by as few others as can be."""
        expected = {
            "all": {("all",)}, "flag": {("all", "flag")}, "letters": {("all", "letters")},
            "side": {("all", "flag", "letters", "side")}, "blind": {("all", "blind")}, "nobody": {WORDS},
        }
        for word, tolds in expected.items():
            seen = {told_of(book) for book in some_books(60, 70, word, letters=(2,))}
            self.assertLessEqual(tolds, seen)

    def test_blind_maps_need_not_leave(self):
        swap = (1, 0, 2)
        line = tuple([(0, 2 * t, swap, swap) for t in (0, 1)])
        book = ((True,), (0, 0, 1), (0, 0), ((line,) * 3,))
        self.assertEqual(told_of(book), ("all", "blind", "flag", "letters", "side"))

    def test_lists_beside_tuples(self):
        answers, hues, begin, rows = SIDES
        mixed = [[[(row[0], row[1], list(row[2]), row[3]) for row in line] for line in lines] for lines in rows]
        self.assertEqual(told_of((answers, hues, begin, mixed)), told_of(SIDES))
        answers, hues, begin, rows = PARITY
        mixed = [[[[row[0], row[1], list(row[2]), row[3]] for row in line] for line in lines] for lines in rows]
        self.assertEqual(told_of((answers, hues, begin, mixed)), WORDS)


class Parts(unittest.TestCase):
    def test_beside_each_two_places(self):
        seen = {True: 0, False: 0}
        for seed, word in enumerate(WORDS):
            for book in some_books(6, 90 + seed, word, letters=(1, 2)) + [PARITY, SIDES, TOUCHED]:
                many = len(book[1])
                rows = [tuple(zip(*levels)) for c in (1, 2) for levels in all_rows(all_rows((0, 1), repeat=many),
                                                                                   repeat=c)]
                for parts in Random(seed).sample(rows, min(len(rows), 60)):
                    expected = plain_is_parts(book, parts)
                    seen[expected] += 1
                    self.assertIs(is_parts(book, parts), expected)
        self.assertGreater(seen[True], 50)
        self.assertGreater(seen[False], 500)

    def test_three_levels(self):
        for book in some_books(20, 110, "letters", letters=(1,)):
            mixed = Random(7)
            for _ in range(20):
                parts = tuple([tuple([mixed.randrange(3) for _ in range(3)]) for _ in book[1]])
                self.assertIs(is_parts(book, parts), plain_is_parts(book, parts))

    def test_letters_are_parts_of_one_level(self):
        for book in some_books(60, 120, "letters"):
            self.assertIs(is_parts(book, tuple([(hue,) for hue in range(len(book[1]))])), True)

    def test_levels_behind(self):
        # the second number is put to 1 by whoever is changed, the first one is then put to the changed one's second
        hues = (0, 0, 0, 0, 1)
        parts = ((0, 0), (0, 1), (1, 0), (1, 1), (0, 0))
        ones = tuple([parts.index((second, second)) for _, second in parts[:4]])
        book = self.book_by(lambda own: ones + (4,), hues)
        self.assertIs(is_parts(book, parts), True)
        # the first number may hang on the second number of the changed place
        byown = [tuple([parts.index((parts[own][1], second)) for _, second in parts[:4]]) + (4,) for own in range(5)]
        book = self.book_by(lambda own: byown[own], hues)
        self.assertIs(is_parts(book, parts), True)
        # but not the other way about
        self.assertIs(is_parts(book, tuple([pair[::-1] for pair in parts])), False)
        # and not on its first number
        byfirst = [tuple([parts.index((parts[own][0], second)) for _, second in parts[:4]]) + (4,) for own in range(5)]
        book = self.book_by(lambda own: byfirst[own], hues)
        self.assertIs(is_parts(book, parts), False)
        for own in (parts, tuple([pair[::-1] for pair in parts])):
            self.assertIs(is_parts(book, own), plain_is_parts(book, own))

    def book_by(self, map_of, hues):
        still = tuple(range(len(hues)))
        rows = tuple([((0, 0, map_of(own), still), (0, len(hues) - 1, map_of(own), still)) for own in still])
        book = ((True,), hues, (0, 0), (rows,))
        self.assertIs(is_book(book), True)
        return book

    def test_any_value(self):
        for thing in ODD_VALUES:
            expected = type(thing) is tuple and len(thing) == 2 and all(
                type(own) is tuple and len(own) == len(thing[0]) > 0 and all(type(n) is int and n >= 0 for n in own)
                for own in thing)
            self.assertIs(is_parts(PARITY, thing), expected)

    def test_nearly(self):
        parts = ((0,), (1,), (0,))
        for thing in variants(parts):
            expected = thing in (((0,), (1,), (2,)), ((2,), (1,), (0,))) and "True" not in repr(thing)
            self.assertIs(is_parts(TOUCHED, thing), expected, thing)

    def test_what_is_none(self):
        for thing in (
            ((0,), (0,)), ((0,), (1,), (0,), (0,)), ((), (), ()), ((0,), (1,), (0, 0)), ((0, 0), (1,), (0,)),
            ((0,), (-1,), (0,)), ((0,), (True,), (0,)), [(0,), (1,), (0,)], ((0,), [1], (0,)), ((0,), 1, (0,)), 0, None,
            ((0,), (0,), (1,)), ((0, 7), (0, 7), (0, 7)),
        ):
            self.assertIs(is_parts(TOUCHED, thing), False, thing)
        for thing in (((5,), (10 ** 400,), (5,)), ((0, 1), (0, 0), (0, 0)), ((7, 3), (3, 7), (0, 0))):
            self.assertIs(is_parts(TOUCHED, thing), True, thing)

    def test_many_levels(self):
        self.assertIs(is_parts(PARITY, ((0,) * 3000, (1,) * 3000)), True)
        self.assertIs(is_parts(SIDES, ((0,) * 3000, (0,) * 2999 + (1,)) * 2), True)
        self.assertIs(is_parts(SIDES, ((0,) * 3000, (0,) * 1500 + (1,) + (0,) * 1499) * 2), True)
        # of a letter and nothing as of a letter: but who is changed hangs on the HUE
        swap = hue_book(THREE)
        self.assertIs(is_parts(swap, tuple([(hue,) * 2000 for hue in range(18)])), False)

    def test_of_hue_books(self):
        for machine in small_groups():
            own = PlainGroup(machine)
            if own.class_of() is None or len(own.all) > 16:
                continue
            book, _ = own.hue_book()
            self.assertIs(is_parts(book, parts_for(machine)), True)
            if own.class_of() == 3:
                flat = tuple([(hue,) for hue in range(len(book[1]))])
                self.assertIs(is_parts(book, flat), False)


class Groups(unittest.TestCase):
    def test_by_class(self):
        for machine in small_groups():
            own = PlainGroup(machine).class_of()
            word = {None: "flag", 0: "nobody", 1: "nobody", 2: "letters", 3: "flag"}[own]
            self.assertEqual(told_for(machine), word)
            self.assertEqual(levels_for(machine), {None: None, 0: 0, 1: 0, 2: 1, 3: 2}[own])

    def test_by_hand(self):
        told = [told_for(machine) for machine in (RING, SQUARE, OCTAGON, THREE)]
        self.assertEqual(told, ["nobody", "letters", "flag", "flag"])
        self.assertEqual([levels_for(machine) for machine in (RING, SQUARE, OCTAGON, THREE)], [0, 1, 2, None])

    def test_refusals(self):
        for machine in (BIG, FIVE):
            self.assertEqual([refused(own, machine) for own in (told_for, levels_for)], ["TooMuch"] * 2)
        for machine in NO_GROUPS:
            self.assertEqual([refused(own, machine) for own in (told_for, levels_for)], ["Unfit"] * 2)

    def test_the_hue_book_goes_by_it(self):
        for machine in small_groups():
            if refused(hue_book, machine) is None:
                told, own = told_of(hue_book(machine)), PlainGroup(machine).class_of()
                self.assertIn("flag", told)
                self.assertEqual("letters" in told, own in (0, 1, 2))
                for word in ("nobody", "side", "blind"):
                    self.assertEqual(word in told, own in (0, 1))


if __name__ == "__main__":
    unittest.main()
