"""[10]: the HUE BOOK."""

import unittest
from random import Random

from calls import refused
from placehues.books import answer, is_book, stand_behind, stands_come
from placehues.made import book_sizes, flag_doings, hue_book, hue_pairs, parts_for, stand_for, turn_by
from plain_books import all_texts, plain_parts, plain_reads, plain_stands, some_history
from plain_groups import (
    ALL, BIG, EVEN, FIVE, FULL, GROUPS, NO_GROUPS, NONE, OCTAGON, ODD, PlainGroup, QUATERNIONS, RING, SQUARE,
    SQUARE_OF_THREE, THREE, small_groups,
)
from plain_search import does_take

FITTING = [ODD, THREE, SQUARE, SQUARE_OF_THREE, QUATERNIONS, RING, ALL, NONE]


class BesidePlainGroups(unittest.TestCase):
    def test_hue_books(self):
        for machine in small_groups():
            own = PlainGroup(machine)
            book, pairs = own.hue_book()
            with self.subTest(machine):
                self.assertEqual(book_sizes(machine), (len(own.all), len(pairs)))
                self.assertEqual(flag_doings(machine), own.all)
                self.assertEqual(hue_pairs(machine), pairs)
                if len(own.all) * len(pairs) > 240:
                    self.assertEqual(refused(hue_book, machine), "TooMuch")
                else:
                    self.assertEqual(hue_book(machine), book)
                    self.assertIs(is_book(book), True)

    def test_turns(self):
        for machine in GROUPS:
            own = PlainGroup(machine)
            for one in own.all:
                for old in range(own.letters + 1):
                    for new in range(own.letters + 1):
                        self.assertEqual(turn_by(machine, one, old, new), own.turn(one, old, new))

    def test_one_lot_has_the_same_turns(self):
        own = PlainGroup(SQUARE)
        for lot in own.lots:
            for old, new in ((0, 1), (1, 2), (2, 0)):
                self.assertEqual(len({turn_by(SQUARE, one, old, new) for one in lot}), 1)

    def test_stands(self):
        for machine in GROUPS + [FULL]:
            own = PlainGroup(machine)
            pairs = hue_pairs(machine)
            for text in list(all_texts(own.letters, 3)) + [()]:
                flag, hues = stand_for(machine, text)
                self.assertEqual(own.all[flag], own.read(text))
                self.assertEqual(len(hues), len(text))
                for place, hue in enumerate(hues):
                    letter, lot = pairs[hue]
                    self.assertEqual(letter, text[place])
                    self.assertIn(own.read(text[:place]), lot)

    def test_parts(self):
        for machine in small_groups():
            own = PlainGroup(machine)
            with self.subTest(machine):
                if own.class_of() is None:
                    self.assertEqual(refused(parts_for, machine), "CanNot")
                    continue
                levels = max(1, own.class_of() - 1)
                within = [own.lots_by(own.rise(i + 1)) for i in range(levels)]
                expected = tuple([
                    tuple([[set(lot) <= set(outer) for outer in within[i]].index(True) for i in range(levels)])
                    for _, lot in own.hue_book()[1]
                ])
                self.assertEqual(parts_for(machine), expected)


class Right(unittest.TestCase):
    def test_all_stands(self):
        for machine in FITTING:
            letters = len(machine[0][0])
            for many in (1, 2, 3):
                texts = [text for text in all_texts(letters, many) if len(text) == many]
                expected = sorted([stand_for(machine, text) for text in texts])
                self.assertEqual(stands_come(hue_book(machine), many), expected)

    def test_some_histories(self):
        mixed = Random(40)
        for machine in FITTING:
            book = hue_book(machine)
            for _ in range(30):
                history = some_history(mixed, len(machine[0][0]))
                self.assertIs(plain_parts(book, machine, history), False)
                text = [0] * history[0]
                for place, letter in history[1]:
                    text[place] = letter
                self.assertEqual(stand_behind(book, history), stand_for(machine, tuple(text)))

    def test_it_answers_what_the_machine_takes(self):
        for machine in FITTING:
            letters = len(machine[0][0])
            for text in all_texts(letters, 3):
                flag, _ = stand_for(machine, text)
                self.assertIs(hue_book(machine)[0][flag], does_take(machine, plain_reads(text)))

    def test_long(self):
        mixed = Random(41)
        book = hue_book(THREE)
        history = (60, tuple([(mixed.randrange(60), mixed.randrange(3)) for _ in range(400)]))
        flag, hues = plain_stands(book, history)[-1]
        text = tuple([book[1][hue] for hue in hues])
        self.assertEqual(stand_for(THREE, text), (flag, hues))
        self.assertIs(answer(book, history), does_take(THREE, plain_reads(text)))


class Made(unittest.TestCase):
    def test_by_hand(self):
        self.assertEqual([book_sizes(own) for own in (ALL, NONE, RING, QUATERNIONS, OCTAGON, EVEN, FULL)],
                         [(1, 4), (1, 2), (12, 4), (8, 12), (16, 24), (12, 36), (48, 72)])
        self.assertEqual(hue_book(NONE), ((False,), (0, 1), (0, 0), ((((0, 0, (0, 1), (0, 1)), (0, 1, (0, 1), (0, 1))),
                                                                      ((0, 0, (0, 1), (0, 1)), (0, 1, (0, 1), (0, 1)))),)))
        self.assertEqual(hue_pairs(NONE), ((0, ((0,),)), (1, ((0,),))))
        self.assertEqual(stand_for(RING, (1, 2, 3, 1)), (1, (1, 2, 3, 1)))
        self.assertEqual(stand_for(RING, (0,)), (0, (0,)))

    def test_240_are_not_too_much(self):
        # 12 FLAGS and 4 HUES; 6 and 18; 8 and 12: below. 16 and 24, 12 and 36: above
        for machine in (RING, THREE, SQUARE, QUATERNIONS):
            self.assertEqual(refused(hue_book, machine), None)
        for machine in (OCTAGON, EVEN, FULL):
            self.assertEqual(refused(hue_book, machine), "TooMuch")
        rounds = [(tuple([((at + 1) % many,) * 3 for at in range(many)]), (0,)) for many in (12, 48)]
        self.assertEqual([refused(hue_book, own) for own in rounds], [None, None])
        # 48 FLAGS and 5 HUES are 240, 41 and 6 are 246
        four = (tuple([((at + 1) % 48,) * 4 for at in range(48)]), (0,))
        five = (tuple([((at + 1) % 41,) * 5 for at in range(41)]), (0,))
        self.assertEqual([refused(hue_book, own) for own in (four, five)], [None, "TooMuch"])
        self.assertEqual([book_sizes(own) for own in (four, five)], [(48, 5), (41, 6)])

    def test_parts_by_hand(self):
        self.assertEqual(parts_for(ALL), ((0,),) * 4)
        self.assertEqual(parts_for(RING), ((0,),) * 4)
        self.assertEqual(parts_for(QUATERNIONS), ((0,), (1,), (2,), (3,)) * 3)
        self.assertEqual({len(own) for own in parts_for(OCTAGON)}, {2})
        self.assertEqual(len(set(parts_for(OCTAGON))), 8)

    def test_only_the_least_machine_counts(self):
        twice = (((1,), (2,), (3,), (0,)), (1, 3))
        self.assertEqual(hue_book(twice), hue_book(ODD))


class Refusals(unittest.TestCase):
    def test_too_much_then_no_group(self):
        for machine, told in [(BIG, "TooMuch"), (FIVE, "TooMuch")] + [(own, "Unfit") for own in NO_GROUPS]:
            for function in (hue_book, book_sizes, flag_doings, hue_pairs, parts_for):
                self.assertEqual(refused(function, machine), told)
            self.assertEqual(refused(turn_by, machine, (), 0, 1), told)
            self.assertEqual(refused(stand_for, machine, (9,)), told)

    def test_no_doing(self):
        for one in ((0, 0, 0), (1, 2, 1), (), (1, 0), None, (True, 0, 2)):
            self.assertEqual(refused(turn_by, THREE, one, 0, 1), "Unfit")

    def test_no_letter(self):
        for text, place in (((3,), 3), ((0, 1, 5, 3), 5), ((0, 0, 0, 4), 4)):
            self.assertEqual(refused(stand_for, THREE, text), "NoPlace(%d)" % place)
            self.assertEqual(refused(stand_for, FULL, text), "NoPlace(%d)" % place)
        self.assertEqual(refused(stand_for, ODD, (1, 2)), "NoPlace(2)")

    def test_no_class(self):
        for machine in (THREE, EVEN, FULL):
            self.assertEqual(refused(parts_for, machine), "CanNot")


if __name__ == "__main__":
    unittest.main()
