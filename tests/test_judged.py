"""[16]: SIGHTS, LISTS, TABLES, and BOOKS judged for all lengths."""

import unittest
from itertools import product as all_rows
from random import Random

from calls import refused
from odd_values import ODD_VALUES, variants
from placehues.books import is_book
from placehues.judged import (
    is_right, is_rows, is_table, least_rows, lies_in, parting, sight_behind, sight_turned, table,
)
from placehues.made import hue_book
from placehues.words import is_history
from plain_books import (
    PARITY, SIDES, all_histories, bent, dull_book, one_latest, plain_parts, some_book, some_books, some_history,
    with_row,
)
from plain_groups import (
    ALL, BIG, EVEN, FIVE, FULL, GROUPS, NO_GROUPS, NONE, ODD, PlainGroup, QUATERNIONS, SOME, SQUARE, THREE,
)
from plain_sights import PlainSights, lies

THIRDS, EVENS = (((1,), (2,), (0,)), (0,)), (((1,), (0,)), (0,))
TWO_LETTERS = (((1, 0), (0, 1)), (1,))
ALL_OF_ONE = (((0,),), (0,))
SMALL = [ODD, EVENS, THIRDS, ALL_OF_ONE, NONE]


def small_pairs(count, seed):
    """BOOKS and MACHINES of which all SIGHTS of two or three MARKS can be looked at."""
    mixed = Random(seed)
    for _ in range(count):
        machine = mixed.choice(SMALL)
        chance = mixed.random()
        if chance < 0.2:
            book, machine = bent(mixed, ONE_LATEST), ALL_OF_ONE
        elif chance < 0.5:
            book = bent(mixed, mixed.choice([hue_book(machine), PARITY]))
        else:
            book = some_book(mixed, 1, mixed.choice(["all", "side", "letters", "flag", "nobody", "blind"]), 2, 1)
        yield book, machine


def most_marks(book, machine):
    marks = len(book[1]) * len(PlainGroup(machine).all)
    return 3 if marks <= 6 else 2


def ladder(y, x, z, u, a, b, more):
    """A BOOK of 6 FLAGS that is right for what takes all, of which the count of least SIGHTS can be told.

    FLAG 0 is wrong, and one HUE of y leads to it from FLAG 1; to this one of x from FLAG 2, to that one of
    z from 3, one of u from 4. From FLAG 5 one of a HUES leads to FLAG 1, one of b to 2.
    """
    names = "n" + "y" * y + "x" * x + "z" * z + "u" * u + "n" * more
    free, pool = len(names), list(range(1 + y + x, len(names)))
    to_one, to_two = pool[:a], pool[a:a + b]
    still = tuple(range(free + 1))

    def lead(flag, hue):
        for number, name in enumerate("yxzu"):
            if hue < free and (flag, names[hue]) == (number + 1, name):
                return number
        return 1 if flag == 5 and hue in to_one else 2 if flag == 5 and hue in to_two else flag

    rows = tuple([
        tuple([tuple([(lead(f, h), free if t else 0, still, still) for t in (0, 1)]) for h in still]) for f in range(6)
    ])
    many = 1 + y + 2 * x * y + 6 * z * x * y + 24 * u * z * x * y + 2 * a * y + 6 * b * x * y
    return ((False,) + (True,) * 5, (0,) * free + (1,), (1, 0), rows), many


ONE_LATEST = one_latest((True, True, True, False))


class Sights(unittest.TestCase):
    def test_behind(self):
        mixed = Random(1)
        for machine in GROUPS + [FULL, FIVE, EVEN]:
            letters = len(machine[0][0])
            for going_by in ("all", "letters"):
                book = some_book(mixed, letters, going_by)
                plain = PlainSights(book, machine)
                for _ in range(6):
                    history = some_history(mixed, letters)
                    self.assertEqual(sight_behind(book, machine, history), plain.behind(history))

    def test_turned(self):
        mixed = Random(2)
        for machine in GROUPS + [FULL, FIVE]:
            letters = len(machine[0][0])
            book = some_book(mixed, letters)
            plain = PlainSights(book, machine)
            for _ in range(20):
                marks = tuple([mixed.choice(plain.marks) for _ in range(mixed.randrange(1, 5))])
                sight = (mixed.randrange(len(book[0])), mixed.choice(plain.group.all), marks)
                number, letter = mixed.randrange(len(marks)), mixed.randrange(letters + 1)
                expected = plain.turned(sight, number, letter)
                self.assertEqual(sight_turned(book, machine, sight, number, letter), expected)

    def test_a_history_is_seen_so(self):
        mixed = Random(3)
        for machine in GROUPS:
            letters = len(machine[0][0])
            book = some_book(mixed, letters)
            for _ in range(5):
                many, changes = some_history(mixed, letters)
                sight = sight_behind(book, machine, (many, ()))
                for place, letter in changes:
                    sight = sight_turned(book, machine, sight, place, letter)
                self.assertEqual(sight_behind(book, machine, (many, changes)), sight)

    def test_lies_in(self):
        marks = [(0, (0, 1)), (1, (0, 1)), (1, (1, 0))]
        sights = [(0, (0, 1), own) for many in range(4) for own in all_rows(marks, repeat=many)]
        sights += [(1, (0, 1), ()), (0, (1, 0), ()), (1, (0, 1), tuple(marks))]
        told = 0
        for one, other in all_rows(sights, repeat=2):
            told += lies(one, other)
            self.assertIs(lies_in(one, other), lies(one, other))
        self.assertGreater(told, 200)
        long = (0, (0, 1), tuple(marks * 20))
        self.assertIs(lies_in((0, (0, 1), tuple(marks[::-1] * 20)), long), False)
        self.assertIs(lies_in((0, (0, 1), tuple(marks[::-1] * 9)), long), True)

    def test_refusals(self):
        self.assertEqual(refused(sight_behind, PARITY, ODD, (2, ((0, 1), (1, 2)))), "Unfit")
        for book, machine in ((PARITY, THREE), (dull_book(2, True), ODD), (PARITY, SOME), (dull_book(3, True), BIG)):
            self.assertEqual(refused(sight_behind, book, machine, (1, ())), "Unfit")
            self.assertEqual(refused(sight_turned, book, machine, (0, (0, 1), ()), 0, 0), "Unfit")
        sight = (0, (0, 1), ((0, (0, 1)), (1, (1, 0))))
        for number in (2, 3, -1, 10 ** 30):
            self.assertEqual(refused(sight_turned, PARITY, ODD, sight, number, 0), "NoPlace(%d)" % number)
        self.assertEqual(refused(sight_turned, PARITY, ODD, (0, (0, 1), ()), 0, 0), "NoPlace(0)")
        self.assertEqual(refused(sight_turned, PARITY, ODD, sight, 1, 0), None)


class Judged(unittest.TestCase):
    def test_beside_all_short_sights(self):
        seen = {"right": 0, "parted": 0, "marks": 0}
        for book, machine in small_pairs(250, 4):
            plain = PlainSights(book, machine)
            longest = most_marks(book, machine)
            told = plain.distances(longest)
            near = [told[own] for own in told if plain.is_begun(own)]
            with self.subTest(book, machine=machine):
                history = parting(book, machine)
                self.assertIs(is_right(book, machine), history is None)
                if near:
                    seen["parted"] += 1
                    self.assertIs(plain_parts(book, machine, history), True)
                    self.assertEqual(len(history[1]), min(near))
                    self.assertEqual(refused(least_rows, book, machine), "CanNot")
                else:
                    seen["right"] += 1
                    self.assertIs(history, None)
                    rows = least_rows(book, machine)
                    short = [own for own in rows if len(own[2]) <= longest]
                    self.assertEqual(short, sorted(plain.least(told, 99)))
                    seen["marks"] += max([len(own[2]) for own in rows] + [0]) > 1
        self.assertGreater(min(seen.values()), 2, seen)
        self.assertGreater(seen["right"], 40)

    def test_beside_all_short_histories(self):
        # no HISTORY of fewer CHANGES parts, be it on how many places it may
        mixed = Random(5)
        seen = {}
        for book in [bent(mixed, SIDES) for _ in range(60)] + some_books(60, 6, letters=(1,)) + [PARITY, SIDES]:
            history = parting(book, ODD)
            many = 4 if history is None else len(history[1])
            seen[many if history else None] = seen.get(many if history else None, 0) + 1
            if history is not None:
                self.assertIs(is_history(history), True)
                self.assertIs(plain_parts(book, ODD, history), True)
            longest = min(4, many) - (history is not None and many <= 4)
            places = [3, 4, 3, 2, 2]
            for changes in range(longest + 1):
                for own in all_histories(1, places[changes], changes):
                    if len(own[1]) == changes:
                        self.assertIs(plain_parts(book, ODD, own), False)
        self.assertGreater(len(seen), 4, seen)

    def test_right_books(self):
        for machine in (ODD, EVENS, THIRDS, TWO_LETTERS, NONE, ALL, (((1, 2), (2, 0), (0, 1)), (0,))):
            book = hue_book(machine)
            self.assertIs(is_right(book, machine), True)
            self.assertIs(is_rows(book, machine, least_rows(book, machine)), True)
            self.assertIs(is_table(book, machine, table(book, machine)), True)
        self.assertIs(is_right(SIDES, ODD), True)
        self.assertIs(is_right(SIDES, EVENS), False)
        self.assertEqual(parting(SIDES, EVENS), (1, ()))

    def test_nobody(self):
        # without MARKS: nothing is told, all hangs on the FLAG
        self.assertEqual(least_rows(PARITY, ODD), ((0, (1, 0), ()), (1, (0, 1), ())))
        self.assertEqual(least_rows(dull_book(1, True), ALL_OF_ONE), ())
        self.assertEqual(least_rows(dull_book(1, False), NONE), ())
        self.assertEqual(parting(dull_book(1, False), ALL_OF_ONE), (1, ()))

    def test_less_marks_and_more_changes(self):
        # FLAG 1 leads to 2 at HUE 1, which becomes 3; 2 leads to 0 at HUE 2, and to 3 at HUE 3; 3 to 0 at HUE 3:
        # so two MARKS lead there by two CHANGES, and the first of them alone by three
        still = (0, 1, 2, 3, 4)
        leads = {(1, 1): 2, (2, 2): 0, (2, 3): 3, (3, 3): 0}
        rows = tuple([
            tuple([((leads.get((f, h), f), 3 if (f, h) in leads else 0, still, still), (f, 4, still, still)) for h in still])
            for f in range(4)
        ])
        book = ((False, True, True, True), (0, 0, 0, 0, 1), (1, 0), rows)
        self.assertIs(is_book(book), True)
        plain = PlainSights(book, ALL_OF_ONE)
        told = plain.distances(3)
        marks = [(hue, (0,)) for hue in range(4)]
        self.assertEqual(told[(1, (0,), (marks[1], marks[2]))], 2)
        self.assertEqual(told[(1, (0,), (marks[1],))], 3)
        expected = tuple(sorted(plain.least(told, 99)))
        self.assertEqual(len(expected), 5)
        self.assertEqual(least_rows(book, ALL_OF_ONE), expected)

    def test_of_three_letters_and_six_doings(self):
        mixed = Random(7)
        book = hue_book(THREE)
        self.assertEqual((len(book[0]), len(book[1])), (6, 18))
        # right, but the SIGHTS by two CHANGES are far more than 3,000
        for function in (parting, is_right, least_rows):
            self.assertEqual(refused(function, book, THREE), "TooMuch")
        self.assertIs(is_table(book, THREE, table(book, THREE)), True)
        found = {}
        for letter, flag in all_rows((1, 2), range(6)):
            row = book[3][0][0][letter]
            other = book[:3] + (with_row(book[3], 0, 0, letter, (flag,) + row[1:]),)
            if refused(parting, other, THREE) is None:
                history = parting(other, THREE)
                found[len(history[1])] = found.get(len(history[1]), 0) + 1
                self.assertIs(plain_parts(other, THREE, history), True)
        # a begun one among them is told though they are more than 3,000
        self.assertGreater(min(found.get(1, 0), found.get(2, 0)), 0, found)
        for _ in range(20):
            other = bent(mixed, book)
            if refused(parting, other, THREE) == "TooMuch":
                found["too"] = True
                for own in all_histories(2, 2, 2):
                    self.assertIs(plain_parts(other, THREE, own), False)
        self.assertIn("too", found)

    def test_just_3000(self):
        book, many = ladder(1, 7, 4, 4, 1, 3, 0)
        self.assertIs(is_book(book), True)
        self.assertEqual(many, 3000)
        rows = least_rows(book, ALL_OF_ONE)
        self.assertEqual(len(rows), 3000)
        self.assertIs(is_rows(book, ALL_OF_ONE, rows), True)
        self.assertEqual(rows[:3], ((0, (0,), ()), (1, (0,), ((1, (0,)),)), (2, (0,), ((1, (0,)), (2, (0,))))))

    def test_just_above_3000(self):
        book, many = ladder(8, 3, 4, 1, 4, 0, 0)
        self.assertEqual(many, 3001)
        for function in (parting, is_right, least_rows):
            self.assertEqual(refused(function, book, ALL_OF_ONE), "TooMuch")
        self.assertEqual(len(table(book, ALL_OF_ONE)), 2)


class Bounds(unittest.TestCase):
    FOUR = (parting, is_right, least_rows, table)

    def test_sizes(self):
        ring = [(tuple([((at + 1) % many,) for at in range(many)]), (0,)) for many in (6, 7)]
        for function in self.FOUR:
            for machine in (SQUARE, QUATERNIONS, EVEN, FULL, ring[1]):
                book = dull_book(len(machine[0][0]), True)
                self.assertEqual(refused(function, book, machine), "TooMuch")
            told = refused(function, dull_book(1, True), ring[0])
            self.assertIn(told, (None, "CanNot"))

    def wide(self, flags, hues):
        """A BOOK of so many FLAGS and HUES that answers True always."""
        still = tuple(range(hues))
        line = ((0, 0, still, still), (0, hues - 1, still, still))
        return (True,) * flags, (0,) * (hues - 1) + (1,), (0, 0), ((line,) * hues,) * flags

    def test_flags_and_hues(self):
        for function in self.FOUR:
            self.assertEqual(refused(function, self.wide(6, 18), ALL_OF_ONE), None)
            self.assertEqual(refused(function, self.wide(7, 2), ALL_OF_ONE), "TooMuch")
            self.assertEqual(refused(function, self.wide(1, 19), ALL_OF_ONE), "TooMuch")

    def test_no_group_and_letters_ahead_of_all(self):
        pairs = [(dull_book(len(own[0][0]), True), own) for own in NO_GROUPS + [BIG]]
        pairs += [(PARITY, THREE), (PARITY, FIVE), (self.wide(7, 19), THREE), (dull_book(2, True), ODD)]
        for book, machine in pairs:
            for function in self.FOUR:
                self.assertEqual(refused(function, book, machine), "Unfit")
            for function in (is_rows, is_table):
                self.assertEqual(refused(function, book, machine, None), "Unfit")
                self.assertEqual(refused(function, book, machine, ()), "Unfit")

    def test_many_doings_of_a_group(self):
        for function in (is_rows, is_table):
            self.assertEqual(refused(function, dull_book(2, True), FIVE, None), "TooMuch")
            self.assertEqual(refused(function, dull_book(2, True), FULL, None), None)
        for function in self.FOUR:
            self.assertEqual(refused(function, dull_book(2, True), FIVE), "TooMuch")


class Lists(unittest.TestCase):
    def test_beside_all_short_sights(self):
        mixed = Random(8)
        seen = {True: 0, False: 0}
        for book, machine in small_pairs(120, 9):
            plain = PlainSights(book, machine)
            if len(plain.marks) > 6:
                continue
            told = plain.distances(2)
            rows = sorted(plain.least(told, 99))
            pool = list(plain.with_marks(0)) + list(plain.with_marks(1))
            for _ in range(6):
                own = set([row for row in rows if len(row[2]) < 2])
                for _ in range(mixed.randrange(4)):
                    own ^= {mixed.choice(pool)}
                thing = tuple(sorted(own))
                expected = plain.is_list(thing)
                seen[expected] += 1
                self.assertIs(is_rows(book, machine, thing), expected, (book, machine, thing))
        self.assertGreater(min(seen.values()), 60, seen)

    def test_there_is_one_exactly_if_it_is_right(self):
        for book, machine in small_pairs(60, 10):
            if is_right(book, machine):
                rows = least_rows(book, machine)
                self.assertIs(is_rows(book, machine, rows), True)
                for at in range(len(rows)):
                    self.assertIs(is_rows(book, machine, rows[:at] + rows[at + 1:]), False)

    def test_more_than_the_least(self):
        rows = least_rows(PARITY, ODD)
        more = rows[:1] + ((0, (1, 0), ((0, (0, 1)),)),) + rows[1:]
        self.assertIs(is_rows(PARITY, ODD, more), True)
        self.assertIs(is_rows(PARITY, ODD, more[::-1]), False)
        self.assertIs(is_rows(PARITY, ODD, rows + rows[1:]), False)
        # a begun one, and one from which a begun one is turned to it
        self.assertIs(is_rows(PARITY, ODD, ((0, (0, 1), ()),) + rows), False)
        self.assertIs(is_rows(PARITY, ODD, ((0, (0, 1), ((0, (0, 1)),)),) + rows), False)

    def test_a_hue_book_of_eight_doings(self):
        # all FLAGS that are not the DOING, all HUES of another LOT than that of the DOING ahead
        for machine in (SQUARE, THREE, QUATERNIONS):
            book, group = hue_book(machine), PlainGroup(machine)
            pairs = sorted([(letter, lot) for letter in range(group.letters + 1) for lot in group.lots])
            rows = [(f, m, ()) for f, own in enumerate(group.all) for m in group.all if m != own]
            rows += [
                (f, own, ((h, x),)) for f, own in enumerate(group.all)
                for h, (_, lot) in enumerate(pairs) for x in group.all if x not in lot
            ]
            rows = tuple(sorted(rows))
            self.assertIs(is_rows(book, machine, rows), True)
            for at in (0, 1, len(rows) // 2, len(rows) - 1):
                self.assertIs(is_rows(book, machine, rows[:at] + rows[at + 1:]), False)
            rows = tuple(sorted([
                (f, own, (h, x)) for f, own in enumerate(group.all)
                for h, (_, lot) in enumerate(pairs) for x in lot
            ]))
            self.assertIs(is_table(book, machine, rows), True)
            self.assertIs(is_table(book, machine, rows[1:]), False)

    def test_any_value(self):
        rows = least_rows(PARITY, ODD)
        for thing in ODD_VALUES:
            self.assertIs(is_rows(PARITY, ODD, thing), False)
            self.assertIs(is_rows(PARITY, ODD, rows + (thing,)), False)
            self.assertIs(is_rows(PARITY, ODD, rows + ((1, thing, ()),)), False)
            self.assertIs(is_rows(PARITY, ODD, rows + ((1, (0, 1), thing),)), False)
            self.assertIs(is_rows(PARITY, ODD, rows + ((1, (0, 1), (thing,)),)), False)
            self.assertIs(is_rows(dull_book(1, True), ALL_OF_ONE, thing), repr(thing) == "()")

    def test_nearly(self):
        rows = ((0, (1, 0), ()), (0, (1, 0), ((1, (0, 1)),)), (1, (0, 1), ()))
        self.assertIs(is_rows(PARITY, ODD, rows), True)
        plain = PlainSights(PARITY, ODD)
        sights = {repr(own) for many in (0, 1) for own in plain.with_marks(many)}
        for thing in variants(rows):
            fit = isinstance(thing, tuple) and all([repr(own) in sights for own in thing])
            fit = fit and all([own < after for own, after in zip(thing, thing[1:])]) and plain.is_list(thing)
            self.assertIs(is_rows(PARITY, ODD, thing), fit, thing)

    def test_long_ones(self):
        rows = least_rows(PARITY, ODD)
        long = (0, (1, 0), ((1, (0, 1)), (0, (1, 0))) * 2000)
        self.assertIs(is_rows(PARITY, ODD, rows[:1] + (long,) + rows[1:]), True)
        mixed = Random(3)
        short = least_rows(SIDES, ODD)
        # a long one with no other in it, from which nothing wrong comes
        flag, whole, marks = 1, (1, 0), tuple([mixed.choice([(0, (0, 1)), (1, (1, 0))]) for _ in range(2000)])
        thing = tuple(sorted(short + ((flag, whole, marks),)))
        self.assertIs(is_rows(SIDES, ODD, thing), False)


class Tables(unittest.TestCase):
    def test_beside_plain_tables(self):
        seen = {True: 0, False: 0}
        for book, machine in list(small_pairs(150, 11)) + [(SIDES, ODD), (SIDES, EVENS)]:
            plain = PlainSights(book, machine)
            expected = plain.table()
            wrong = any([plain.is_wrong(own) for own in expected])
            seen[wrong] += 1
            if wrong:
                self.assertEqual(refused(table, book, machine), "CanNot")
                self.assertIs(is_table(book, machine, expected), False)
            else:
                self.assertEqual(table(book, machine), expected)
                self.assertIs(is_table(book, machine, expected), True)
                self.assertIs(is_right(book, machine), True)
        self.assertGreater(min(seen.values()), 30, seen)

    def test_greater_ones(self):
        mixed = Random(12)
        seen = {True: 0, False: 0}
        for book, machine in small_pairs(60, 13):
            plain = PlainSights(book, machine)
            triples = [(f, m, mark) for f, m, (mark,) in plain.with_marks(1)]
            for _ in range(5):
                own = set([one for one in triples if not plain.is_wrong(one)])
                if mixed.random() < 0.5:
                    own = set(plain.table())
                for _ in range(mixed.randrange(3)):
                    own ^= {mixed.choice(triples)}
                thing = tuple(sorted(own))
                seen[plain.is_table(thing)] += 1
                self.assertIs(is_table(book, machine, thing), plain.is_table(thing))
        self.assertGreater(min(seen.values()), 20, seen)

    def test_right_without_a_table(self):
        # places looked at each by itself: as if two had the HUE of the latest at once
        self.assertIs(is_book(ONE_LATEST), True)
        self.assertIs(parting(ONE_LATEST, ALL_OF_ONE), None)
        self.assertEqual(refused(table, ONE_LATEST, ALL_OF_ONE), "CanNot")
        rows = least_rows(ONE_LATEST, ALL_OF_ONE)
        self.assertIn((1, (0,), ((1, (0,)), (4, (0,)))), rows)
        self.assertIs(is_rows(ONE_LATEST, ALL_OF_ONE, rows), True)

    def test_any_value(self):
        rows = table(PARITY, ODD)
        for thing in ODD_VALUES:
            self.assertIs(is_table(PARITY, ODD, thing), False)
            self.assertIs(is_table(PARITY, ODD, rows + (thing,)), False)
            self.assertIs(is_table(PARITY, ODD, rows[:-1] + ((thing,) + rows[-1][1:],)), repr(thing) == "1")
            self.assertIs(is_table(PARITY, ODD, rows[:-1] + ((1, thing, (1, (1, 0))),)), False)
            self.assertIs(is_table(PARITY, ODD, rows[:-1] + ((1, (1, 0), thing),)), False)

    def test_nearly(self):
        rows = table(PARITY, ODD)
        plain = PlainSights(PARITY, ODD)
        triples = {repr((f, m, mark)) for f, m, (mark,) in plain.with_marks(1)}
        for thing in variants(rows):
            fit = isinstance(thing, tuple) and all([repr(own) in triples for own in thing])
            fit = fit and all([own < after for own, after in zip(thing, thing[1:])]) and plain.is_table(thing)
            self.assertIs(is_table(PARITY, ODD, thing), fit, thing)
        self.assertIs(is_table(PARITY, ODD, rows[::-1]), False)


if __name__ == "__main__":
    unittest.main()
