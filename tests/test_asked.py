"""[14]: the WHOLE BOOK, and BOOKS asked at their places."""

import unittest
from random import Random

from calls import refused
from odd_values import ODD_VALUES, variants
from placehues.asked import (
    fewest_asked, is_wrong, read_ahead, read_between, takes_between, whole_book, whole_marks, whole_pairs,
    wrong_one, wrong_places,
)
from placehues.books import hues_for, is_book, stand_behind
from placehues.made import hue_book
from placehues.words import is_history
from plain_books import (
    PARITY, all_histories, dull_book, plain_parts, plain_reads, plain_stands, plain_text, some_book, some_history,
)
from plain_groups import (
    ALL, BIG, EVEN, FIRST, FIVE, FULL, GROUPS, NO_GROUPS, NONE, OCTAGON, ODD, PlainGroup, QUATERNIONS, RING, SOME,
    SQUARE, SQUARE_OF_THREE, THREE, small_groups,
)
from plain_search import does_take, then

FITTING = [ODD, THREE, SQUARE, QUATERNIONS, ALL, NONE]
TWO = (2, ((0, 1), (1, 1)))


def stand_of(own, text):
    """The STAND of the WHOLE BOOK behind HISTORIES with this TEXT behind them."""
    pairs = sorted([(letter, one) for letter in range(own.letters + 1) for one in own.all])
    hues = [pairs.index((letter, own.read(text[:place]))) for place, letter in enumerate(text)]
    return own.all.index(own.read(text)), tuple(hues)


def plain_wrong(book, machine, marks, history):
    hues, text = plain_stands(book, history)[-1][1], plain_text(history)
    return tuple([
        place for place in range(history[0])
        if marks[hues[place]] != does_take(machine, plain_reads(text[:place + 1]))
    ])


class WholeBooks(unittest.TestCase):
    def test_beside_plain_groups(self):
        for machine in small_groups():
            own = PlainGroup(machine)
            many = len(own.all)
            pairs = tuple([(letter, one) for letter in range(own.letters + 1) for one in own.all])
            with self.subTest(machine):
                self.assertEqual(whole_pairs(machine), pairs)
                self.assertEqual(fewest_asked(machine), many)
                marks = [own.is_taken(then(one, own.letter(letter))) for letter, one in pairs]
                self.assertEqual(whole_marks(machine), tuple(marks))
                if many * len(pairs) > 240:
                    self.assertEqual(refused(whole_book, machine), "TooMuch")
                else:
                    self.assertEqual(whole_book(machine), own.hue_book(whole=True)[0])
                    self.assertIs(is_book(whole_book(machine)), True)

    def test_240_are_not_too_much(self):
        rounds = [(tuple([((at + 1) % 4,) * letters for at in range(4)]), (0,)) for letters in (14, 15)]
        self.assertEqual([refused(whole_book, own) for own in rounds], [None, "TooMuch"])
        for machine in (OCTAGON, EVEN, FULL, RING):
            self.assertEqual(refused(whole_book, machine), "TooMuch")
            self.assertEqual(len(whole_marks(machine)), fewest_asked(machine) * (1 + len(machine[0][0])))
        self.assertEqual((fewest_asked(FULL), len(whole_pairs(FULL))), (48, 144))

    def test_right_and_marks_hold(self):
        for machine in FITTING:
            book, own = whole_book(machine), PlainGroup(machine)
            marks = whole_marks(machine)
            for history in list(all_histories(own.letters, 3, 2)) + list(all_histories(own.letters, 2, 3)):
                self.assertEqual(stand_behind(book, history), stand_of(own, plain_text(history)))
                self.assertIs(plain_parts(book, machine, history), False)
                self.assertEqual(wrong_places(book, machine, marks, history), ())

    def test_by_hand(self):
        self.assertEqual(whole_book(NONE), hue_book(NONE))
        self.assertEqual(whole_pairs(NONE), ((0, (0,)), (1, (0,))))
        self.assertEqual((whole_marks(NONE), whole_marks(ALL)), ((False, False), (True,) * 4))
        self.assertEqual(whole_book(THREE), hue_book(THREE))


class Stretches(unittest.TestCase):
    def test_what_is_read(self):
        mixed = Random(1)
        for machine in GROUPS + [FULL]:
            own = PlainGroup(machine)
            for _ in range(8):
                text = plain_text(some_history(mixed, own.letters))
                stand = stand_of(own, text)
                for x in range(len(text)):
                    self.assertEqual(read_ahead(machine, stand, x), own.read(text[:x]))
                    for y in range(x, len(text) + 1):
                        self.assertEqual(read_between(machine, stand, x, y), own.read(text[x:y]))
                        expected = does_take(machine, plain_reads(text[x:y]))
                        self.assertIs(takes_between(machine, stand, x, y), expected)

    def test_of_real_stands(self):
        mixed = Random(2)
        for machine in FITTING:
            book = whole_book(machine)
            for _ in range(10):
                history = some_history(mixed, len(machine[0][0]))
                text = plain_text(history)
                stand = stand_behind(book, history)
                for x in range(history[0]):
                    taken = does_take(machine, plain_reads(text[x:]))
                    self.assertIs(takes_between(machine, stand, x, history[0]), taken)

    def test_nothing_between(self):
        stand = stand_of(PlainGroup(ODD), (1, 0, 1))
        for x in range(3):
            self.assertEqual(read_between(ODD, stand, x, x), (0, 1))
            self.assertIs(takes_between(ODD, stand, x, x), False)

    def test_no_place(self):
        stand = stand_of(PlainGroup(ODD), (1, 0, 1))
        for x in (3, 4, -1, 10 ** 30):
            self.assertEqual(refused(read_ahead, ODD, stand, x), "NoPlace(%d)" % x)
            for y in (0, 3, 4, -1, x):
                for function in (read_between, takes_between):
                    self.assertEqual(refused(function, ODD, stand, x, y), "NoPlace(%d)" % x)
        for y in (4, 5, -1, 10 ** 30):
            for x in (0, 2):
                for function in (read_between, takes_between):
                    self.assertEqual(refused(function, ODD, stand, x, y), "NoPlace(%d)" % y)

    def test_the_wrong_way_about(self):
        stand = stand_of(PlainGroup(ODD), (1, 0, 1))
        for x, y in ((1, 0), (2, 0), (2, 1)):
            for function in (read_between, takes_between):
                self.assertEqual(refused(function, ODD, stand, x, y), "Unfit")
        for x, y in ((0, 0), (0, 3), (2, 3)):
            for function in (read_between, takes_between):
                self.assertEqual(refused(function, ODD, stand, x, y), None)


class WrongPlaces(unittest.TestCase):
    def test_beside_each_place(self):
        mixed = Random(3)
        seen = {True: 0, False: 0}
        for machine in [ODD, THREE, SQUARE, SQUARE_OF_THREE, RING, EVEN, FULL]:
            letters = len(machine[0][0])
            for going_by in ("all", "nobody", "letters"):
                book = some_book(mixed, letters, going_by)
                marks = tuple([mixed.random() < 0.5 for _ in book[1]])
                for _ in range(15):
                    history = some_history(mixed, letters)
                    expected = plain_wrong(book, machine, marks, history)
                    self.assertEqual(wrong_places(book, machine, marks, history), expected)
                    for place in range(history[0]):
                        seen[place in expected] += 1
                        told = is_wrong(book, machine, marks, (history, place))
                        self.assertIs(told, place in expected)
                    self.assertIs(is_wrong(book, machine, marks, (history, history[0])), False)
                    self.assertIs(is_wrong(book, machine, marks, (history, -1)), False)
        self.assertGreater(min(seen.values()), 300)

    def test_lists(self):
        marks = [False, True]
        self.assertEqual(wrong_places(hue_book(ODD), ODD, marks, [2, [[0, 1], [1, 1]]]), (1,))
        self.assertIs(is_wrong(hue_book(ODD), ODD, marks, [TWO, 1]), False)
        self.assertIs(is_wrong(hue_book(ODD), ODD, marks, (TWO, 1)), True)

    def test_letters_that_are_not_there(self):
        for history in ((1, ((0, 2),)), (2, ((0, 3), (0, 0)))):
            self.assertEqual(refused(wrong_places, PARITY, ODD, (True, False), history), "Unfit")
            self.assertIs(is_wrong(PARITY, ODD, (True, False), (history, 0)), False)

    def test_any_value(self):
        for thing in ODD_VALUES:
            self.assertIs(is_wrong(PARITY, ODD, (True, True), thing), repr(thing) == "((1, ()), 0)")
            self.assertIs(is_wrong(PARITY, ODD, (True, True), (TWO, thing)), repr(thing) == "1")
            self.assertIs(is_wrong(PARITY, ODD, (True, True), (thing, 0)), repr(thing) == "(1, ())")

    def test_nearly(self):
        marks = (False, True)
        self.assertIs(is_wrong(PARITY, ODD, marks, (TWO, 1)), True)
        for thing in variants((TWO, 1)):
            fit = type(thing) is tuple and len(thing) == 2 and is_history(thing[0]) and type(thing[1]) is int
            fit = fit and all(letter < 2 for _, letter in thing[0][1])
            expected = fit and thing[1] in plain_wrong(PARITY, ODD, marks, thing[0])
            self.assertIs(is_wrong(PARITY, ODD, marks, thing), expected, thing)

    def test_many_places(self):
        history = (10000, ((17, 1), (5000, 1)))
        self.assertEqual(wrong_places(PARITY, ODD, (False, True), history), tuple(range(18, 5001)))
        self.assertIs(is_wrong(PARITY, ODD, (False, True), (history, 4999)), True)
        self.assertIs(is_wrong(PARITY, ODD, (False, True), (history, 5001)), False)


class WrongOnes(unittest.TestCase):
    def test_all_with_too_few_hues(self):
        mixed = Random(4)
        seen = {True: 0, False: 0}
        for machine in GROUPS + [FULL]:
            own = PlainGroup(machine)
            for going_by in ("all", "nobody", "blind", "side", "letters", "flag"):
                for _ in range(4):
                    book = some_book(mixed, own.letters, going_by, 3, 10)
                    marks = tuple([mixed.random() < 0.5 for _ in book[1]])
                    short = any(len(hues_for(book, letter)) < len(own.all) for letter in range(own.letters + 1))
                    seen[short] += 1
                    if short:
                        self.one(book, machine, marks)
                    else:
                        self.assertEqual(refused(wrong_one, book, machine, marks), "CanNot")
        self.assertGreater(seen[True], 200)
        self.assertGreater(seen[False], 40)

    def one(self, book, machine, marks):
        paper = wrong_one(book, machine, marks)
        history, place = paper
        self.assertIs(is_history(history), True)
        self.assertIn(place, plain_wrong(book, machine, marks, history))
        self.assertIs(is_wrong(book, machine, marks, paper), True)

    def test_books_that_are_right(self):
        # as many HUES as LOTS are not enough
        for machine in (ODD, SQUARE, SQUARE_OF_THREE, QUATERNIONS, RING):
            if refused(hue_book, machine) is not None:
                continue
            book = hue_book(machine)
            mixed = Random(5)
            for _ in range(20):
                self.one(book, machine, tuple([mixed.random() < 0.5 for _ in book[1]]))

    def test_one_letter_alone_is_short(self):
        # enough HUES of nothing, too few of the letter
        still = (0, 1, 2)
        line = ((0, 0, still, still), (0, 2, still, still))
        book = ((True,), (0, 0, 1), (0, 0), ((line,) * 3,))
        for marks in ((True, True, True), (False, True, False), (True, False, True), (False, False, False)):
            self.one(book, ODD, marks)

    def test_letters_alone_are_short(self):
        mixed = Random(6)
        thirds = [(((1,), (2,), (0,)), ends) for ends in ((0,), (1,), (2,), (0, 2))]
        for machine in thirds + [RING, SQUARE, QUATERNIONS]:
            book = self.with_one_hue_for_each_letter(PlainGroup(machine))
            self.assertIs(is_book(book), True)
            for _ in range(6):
                self.one(book, machine, tuple([mixed.random() < 0.5 for _ in book[1]]))

    def with_one_hue_for_each_letter(self, own):
        """The WHOLE BOOK with all HUES of a letter put together, those of nothing as they are."""
        answers, hues, begin, rows = own.hue_book(whole=True)[0]
        free = len(own.all)
        put = [hue if letter == 0 else free + letter - 1 for hue, letter in enumerate(hues)]
        first = [put.index(hue) for hue in range(free + own.letters)]

        def row(flag, hue, left, right):
            return (flag, put[hue], tuple([put[left[at]] for at in first]), tuple([put[right[at]] for at in first]))

        rows = tuple([tuple([tuple([row(*old) for old in lines[at]]) for at in first]) for lines in rows])
        return answers, tuple([hues[at] for at in first]), begin, rows

    def test_enough(self):
        for machine in FITTING:
            marks = whole_marks(machine)
            self.assertEqual(refused(wrong_one, whole_book(machine), machine, marks), "CanNot")
        self.assertEqual(refused(wrong_one, dull_book(3, True), ALL, (True,) * 4), "CanNot")


class Refusals(unittest.TestCase):
    def test_too_much_then_no_group_ahead_of_all(self):
        rows = [(BIG, "TooMuch"), (FIVE, "TooMuch")] + [(own, "Unfit") for own in NO_GROUPS]
        for machine, told in rows:
            for function in (whole_book, whole_pairs, whole_marks, fewest_asked):
                self.assertEqual(refused(function, machine), told)
            self.assertEqual(refused(read_ahead, machine, (0, (0,)), 7), told)
            self.assertEqual(refused(read_between, machine, (0, (0,)), 7, 3), told)
            self.assertEqual(refused(takes_between, machine, (0, (0,)), 7, 3), told)
            for book in (PARITY, dull_book(3, True)):
                for marks in ((), (True,) * 4):
                    self.assertEqual(refused(wrong_places, book, machine, marks, (1, ((0, 9),))), told)
                    self.assertEqual(refused(is_wrong, book, machine, marks, None), told)
                    self.assertEqual(refused(wrong_one, book, machine, marks), told)

    def test_letters_and_marks(self):
        for book, machine, marks in (
            (PARITY, THREE, (True, True)), (dull_book(2, True), ODD, (True,) * 3), (PARITY, ODD, ()),
            (PARITY, ODD, (True,)), (PARITY, ODD, (True,) * 3), (whole_book(ODD), ODD, (True,) * 3),
        ):
            self.assertEqual(refused(wrong_places, book, machine, marks, TWO), "Unfit")
            self.assertEqual(refused(is_wrong, book, machine, marks, None), "Unfit")
            self.assertEqual(refused(is_wrong, book, machine, marks, (TWO, 0)), "Unfit")
            self.assertEqual(refused(wrong_one, book, machine, marks), "Unfit")

    def test_no_groups(self):
        for machine in (SOME, FIRST):
            self.assertEqual(refused(whole_book, machine), "Unfit")


if __name__ == "__main__":
    unittest.main()
