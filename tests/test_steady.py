"""[17]: steady BOOKS, JARS, and two BOOKS alike."""

import unittest
from itertools import product as all_rows
from random import Random

from calls import refused
from odd_values import ODD_VALUES, variants
from placehues.asked import whole_book
from placehues.books import is_book
from placehues.doings import is_group
from placehues.judged import is_right
from placehues.machines import is_machine, least
from placehues.made import hue_book
from placehues.steady import (
    are_books_alike, books_parting, is_books_parting, is_jar, is_steady, jar, own_machine,
)
from placehues.words import is_history
from plain_books import (
    LATEST, PARITY, SIDES, all_histories, bent, dull_book, following, one_latest, plain_answer, plain_reads, plain_text,
    some_book, some_going_round,
)
from plain_groups import ALL, BIG, EVEN, FIRST, FIVE, FULL, NONE, ODD, RING, SOME, SQUARE, THREE
from plain_search import does_take, small_machines, words_upto


def some_small_book(mixed, letters, going_by):
    while True:
        book = some_book(mixed, letters, going_by, 4, 7 - letters)
        if len(book[1]) <= 8:
            return book


def renumbered(mixed, book):
    """book with its FLAGS and HUES in another order, and one FLAG more that nothing leads to."""
    answers, hues, (flag, hue), rows = book
    flags, colours = list(range(len(answers))), list(range(len(hues)))
    mixed.shuffle(flags)
    mixed.shuffle(colours)

    def map_of(old):
        return tuple([colours.index(old[own]) for own in colours])

    def row_of(f, h, t):
        after, own, left, right = rows[f][h][t]
        return flags.index(after), colours.index(own), map_of(left), map_of(right)
    letters = range(max(hues) + 1)
    new = tuple([tuple([tuple([row_of(f, h, t) for t in letters]) for h in colours]) for f in flags])
    told = tuple([answers[f] for f in flags]) + (not answers[0],)
    return told, tuple([hues[h] for h in colours]), (flags.index(flag), colours.index(hue)), new + new[:1]


def plain_of(book, word):
    return plain_answer(book, (max(1, len(word)), tuple(enumerate(word))))


def books(seed, count):
    mixed = Random(seed)
    for number in range(count):
        letters = mixed.choice((1, 1, 2))
        kind = number % 4
        if kind == 0:
            yield some_small_book(mixed, letters, mixed.choice(("all", "side", "letters", "flag", "blind")))
        elif kind == 1:
            yield some_small_book(mixed, letters, "nobody")
        elif kind == 2:
            yield bent(mixed, mixed.choice((PARITY, SIDES, LATEST)), mixed.randrange(2))
        else:
            machine = mixed.choice(list(small_machines(2, letters)))
            yield following(machine)


class OwnMachines(unittest.TestCase):
    def test_beside_plain_histories(self):
        for book in books(1, 150):
            own = own_machine(book)
            letters = max(book[1])
            self.assertIs(is_machine(own), True)
            self.assertEqual(least(own), own)
            for word in words_upto(letters, 7 if letters == 1 else 5):
                self.assertIs(does_take(own, word), plain_of(book, word))

    def test_on_more_places(self):
        mixed = Random(2)
        for book in books(3, 40):
            for _ in range(10):
                word = tuple([mixed.randrange(1, max(book[1]) + 1) for _ in range(mixed.randrange(12))])
                history = (len(word) + 3, tuple(enumerate(word)))
                self.assertIs(does_take(own_machine(book), word), plain_answer(book, history))

    def test_of_made_books(self):
        for machine in (ODD, THREE, SQUARE, ALL, NONE):
            self.assertEqual(own_machine(hue_book(machine)), least(machine))
            self.assertEqual(own_machine(whole_book(machine)), least(machine))
        for machine in (FIRST, SOME, BIG, FIVE, RING, EVEN, FULL):
            self.assertEqual(own_machine(following(machine)), least(machine))
        self.assertEqual(own_machine(dull_book(3, True)), (((0, 0, 0),), (0,)))


class Steady(unittest.TestCase):
    def answers_by_word(self, book, histories):
        """Whether some two of them that read one WORD are answered unlike."""
        told = {}
        return any([
            told.setdefault(plain_reads(plain_text(own)), plain_answer(book, own)) != plain_answer(book, own)
            for own in histories
        ])

    def test_beside_short_histories(self):
        seen = {}
        for book in books(4, 160):
            letters = max(book[1])
            histories = list(all_histories(letters, 2, 4)) + list(all_histories(letters, 3, 3))
            jars = self.answers_by_word(book, histories if letters == 1 else histories[:2000])
            told = refused(is_steady, book)
            if told is not None:
                self.assertEqual(told, "TooMuch")
                continue
            steady = is_steady(book)
            seen[(steady, jars)] = seen.get((steady, jars), 0) + 1
            if jars:
                self.assertIs(steady, False)
            own = own_machine(book)
            self.assertIs(steady, is_group(own) and is_right(book, own))
            if steady:
                self.assertEqual(refused(jar, book), "CanNot")
            else:
                self.one(book, jar(book))
        self.assertGreater(seen[(True, False)], 20)
        self.assertGreater(seen[(False, True)], 20)

    def one(self, book, pair):
        one, other = pair
        self.assertIs(is_history(one) and is_history(other), True)
        self.assertEqual(plain_reads(plain_text(one)), plain_reads(plain_text(other)))
        self.assertIs(plain_answer(book, one), not plain_answer(book, other))
        self.assertIs(is_jar(book, pair), True)
        self.assertIs(is_jar(book, pair[::-1]), True)

    def test_no_groups(self):
        for machine in (SOME, FIRST, (((1,), (2,), (2,)), (2,)), (((0, 1), (1, 1)), (0,))):
            book = following(machine)
            self.assertIs(is_steady(book), False)
            self.one(book, jar(book))
        for machine in (THREE, EVEN):
            # a group's, but the FLAG alone does not keep it
            book = following(machine)
            if machine == THREE:
                self.assertIs(is_steady(book), False)
                self.one(book, jar(book))
            else:
                self.assertEqual((refused(is_steady, book), refused(jar, book)), ("TooMuch", "TooMuch"))

    def test_right_ones(self):
        for machine in (ODD, NONE, ALL, (((1,), (2,), (0,)), (0, 2))):
            for book in (hue_book(machine), whole_book(machine)):
                self.assertIs(is_steady(book), True)
                self.assertEqual(refused(jar, book), "CanNot")
        for book in (PARITY, SIDES, dull_book(1, True), dull_book(3, False)):
            self.assertIs(is_steady(book), True)

    def test_too_much(self):
        # 4 STATES that are led to and fro by 256 DOINGS, and a group with 8 of them
        mixing = (((1, 1, 1), (2, 0, 0), (3, 2, 2), (0, 3, 0)), (0,))
        for machine in (mixing, SQUARE, BIG, FIVE):
            book = following(machine)
            for function in (is_steady, jar):
                self.assertEqual(refused(function, book), "TooMuch", machine)

    def test_too_much_of_jar_alone(self):
        # its free HUES go round in 13 and in 31, so in 403: five times that is too much; whether a letter stands somewhere
        for rounds, told in (((13, 31), "TooMuch"), ((8, 49), None)):
            book = some_going_round(*rounds)
            self.assertIs(is_book(book), True)
            self.assertEqual(own_machine(book), SOME)
            self.assertIs(is_steady(book), False)
            self.assertEqual(refused(jar, book), told)
            if told is None:
                self.one(book, jar(book))


class Jars(unittest.TestCase):
    def test_all_short_pairs(self):
        histories = list(all_histories(1, 2, 3)) + list(all_histories(1, 3, 1))
        seen = {True: 0, False: 0}
        for book in (LATEST, PARITY, bent(Random(1), SIDES, 2), bent(Random(2), PARITY, 2)):
            for one, other in all_rows(histories, repeat=2):
                expected = plain_reads(plain_text(one)) == plain_reads(plain_text(other))
                expected = expected and plain_answer(book, one) != plain_answer(book, other)
                seen[expected] += 1
                self.assertIs(is_jar(book, (one, other)), expected)
        self.assertGreater(min(seen.values()), 100)

    def test_letters_that_are_not_there(self):
        self.assertIs(is_jar(LATEST, ((1, ((0, 1),)), (2, ((0, 1), (1, 0))))), False)
        self.assertIs(is_jar(LATEST, ((1, ((0, 1),)), (2, ((0, 1), (1, 1), (1, 0))))), True)
        self.assertIs(is_jar(LATEST, ((1, ((0, 1),)), (2, ((0, 1), (1, 2), (1, 0))))), False)

    def test_any_value(self):
        pair = ((1, ((0, 1),)), (2, ((0, 1), (1, 1), (1, 0))))
        for thing in ODD_VALUES:
            self.assertIs(is_jar(LATEST, thing), False)
            self.assertIs(is_jar(LATEST, (pair[0], thing)), False)
            self.assertIs(is_jar(LATEST, (thing, pair[1])), False)

    def test_nearly(self):
        pair = ((1, ((0, 1),)), (2, ((0, 1), (1, 1), (1, 0))))
        for thing in variants(pair):
            fit = isinstance(thing, tuple) and len(thing) == 2 and all([is_history(own) for own in thing])
            fit = fit and all([letter < 2 for own in thing for _, letter in own[1]])
            fit = fit and plain_reads(plain_text(thing[0])) == plain_reads(plain_text(thing[1]))
            expected = fit and plain_answer(LATEST, thing[0]) != plain_answer(LATEST, thing[1])
            self.assertIs(is_jar(LATEST, thing), expected, thing)

    def test_many_places(self):
        self.assertIs(is_jar(LATEST, ((10000, ((17, 1),)), (10000, ((3, 1), (9999, 1), (9999, 0))))), True)


class Alike(unittest.TestCase):
    def one(self, one, other):
        letters = max(one[1])
        alike = are_books_alike(one, other)
        self.assertIs(are_books_alike(other, one), alike)
        if alike:
            self.assertEqual(refused(books_parting, one, other), "CanNot")
            for history in list(all_histories(letters, 2, 3)) + list(all_histories(letters, 3, 2)):
                self.assertIs(plain_answer(one, history), plain_answer(other, history))
                self.assertIs(is_books_parting(one, other, history), False)
        else:
            history = books_parting(one, other)
            self.assertIs(is_history(history), True)
            self.assertIs(plain_answer(one, history), not plain_answer(other, history))
            self.assertIs(is_books_parting(one, other, history), True)
        return alike

    def test_two_of_any_kind(self):
        mixed = Random(5)
        seen = {True: 0, False: 0}
        for _ in range(240):
            letters = mixed.choice((1, 1, 2, 3))
            going_by = mixed.choice(("all", "side", "letters", "flag", "blind", "nobody"))
            one = some_small_book(mixed, letters, going_by)
            other = mixed.choice((
                bent(mixed, one, 1), bent(mixed, one, 2), some_small_book(mixed, letters, going_by), one))
            seen[self.one(one, other)] += 1
        self.assertGreater(min(seen.values()), 60)

    def test_the_same_with_other_numbers(self):
        mixed = Random(6)
        for _ in range(60):
            one = some_book(mixed, mixed.choice((1, 2, 3)), "all", 3, 4)
            self.assertIs(are_books_alike(one, renumbered(mixed, one)), True)

    def test_steady_ones(self):
        machines = [own for own in small_machines(2, 1)] + [ODD, NONE, (((1,), (2,), (0,)), (0,))]
        made = [book(own) for own in machines if is_group(own) for book in (hue_book, whole_book)] + [PARITY, SIDES]
        for one, other in all_rows(made, repeat=2):
            self.assertIs(are_books_alike(one, other), own_machine(one) == own_machine(other))

    def test_alike_though_places_by_themselves_would_not_tell(self):
        # no two places have HUE 1 at once: so what comes of it then makes no difference
        one, other = [one_latest((True, True, False, wrong)) for wrong in (True, False)]
        self.assertIs(is_book(one), True)
        self.assertIs(self.one(one, other), True)
        self.assertIs(is_steady(one), False)

    def test_refusals(self):
        for function in (are_books_alike, books_parting):
            self.assertEqual(refused(function, PARITY, dull_book(2, True)), "Unfit")
            self.assertEqual(refused(function, dull_book(3, True), SIDES), "Unfit")
        for thing in (None, (1, ()), (2, ((0, 1),))):
            self.assertEqual(refused(is_books_parting, PARITY, dull_book(2, True), thing), "Unfit")

    def test_is_parting(self):
        seen = {True: 0, False: 0}
        for history in list(all_histories(1, 2, 3)) + list(all_histories(1, 3, 2)):
            expected = plain_answer(PARITY, history) != plain_answer(LATEST, history)
            seen[expected] += 1
            self.assertIs(is_books_parting(PARITY, LATEST, history), expected)
        self.assertGreater(min(seen.values()), 20)
        self.assertIs(is_books_parting(PARITY, LATEST, (2, ((0, 1), (1, 1)))), True)
        self.assertIs(is_books_parting(PARITY, LATEST, (2, ((0, 2), (0, 1), (1, 1)))), False)
        for thing in ODD_VALUES:
            self.assertIs(is_books_parting(PARITY, LATEST, thing), False)
            self.assertIs(is_books_parting(PARITY, LATEST, (2, thing)), False)
        for thing in variants((2, ((0, 1), (1, 1)))):
            fit = is_history(thing) and all([letter < 2 for _, letter in thing[1]])
            expected = fit and plain_answer(PARITY, thing) != plain_answer(LATEST, thing)
            self.assertIs(is_books_parting(PARITY, LATEST, thing), expected, thing)


if __name__ == "__main__":
    unittest.main()
