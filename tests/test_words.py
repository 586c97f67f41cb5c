"""[3], [4]: WORDS, TEXTS and HISTORIES."""

import unittest

from odd_values import ODD_VALUES, variants
from placehues.errors import NoPlace
from placehues.words import (
    beside, changed, is_history, is_text, is_word, plain, puts_only, reads, takes_back, text_behind, texts_along,
)

LONG_WORD = tuple([1 + at % 3 for at in range(60)])
LONG_HISTORY = (60, tuple([(at * 7 % 60, at * at % 4) for at in range(400)]))


class Things(unittest.TestCase):
    def test_words(self):
        for thing in ((), (1,), (3, 2, 1), (4, 10 ** 400), LONG_WORD, (1,) * 100000):
            self.assertIs(is_word(thing), True)
        for thing in (
            (0,), (1, 0), (0, 1), (-1,), (1, -10 ** 400), (True,), (1, True), (False,), [1], [], (1, [2]), (1, (2,)),
            (1, None), (1, "1"), "1", "", None, 1, 0, True, ((1,),), (1,) * 99999 + (0,),
        ):
            self.assertIs(is_word(thing), False)

    def test_texts(self):
        for thing in ((), (0,), (0, 3), (1, 0, 0), (10 ** 400, 0), (0,) * 100000):
            self.assertIs(is_text(thing), True)
        for thing in ((-1,), (0, -1), (False,), (0, True), [0], (0, (0,)), (0, None), "0", None, 0, ((0,),)):
            self.assertIs(is_text(thing), False)

    def test_histories(self):
        for thing in (
            (1, ()), (7, ()), (1, ((0, 0),)), (2, ((1, 1), (1, 1), (0, 0))), (10 ** 400, ()),
            (10 ** 400, ((10 ** 400 - 1, 10 ** 400),)), LONG_HISTORY, (10000, ((9999, 1),) * 10000),
        ):
            self.assertIs(is_history(thing), True)
        for thing in (
            (0, ()), (-1, ()), (True, ()), (1, ((1, 1),)), (2, ((2, 0),)), (1, ((-1, 0),)), (1, ((0, -1),)),
            (1, ((0, 1, 1),)), (1, ((0,),)), (1, (0, 1)), (1, [(0, 1)]), (1, ([0, 1],)), [1, ()], (1,), (1, (), ()),
            (1, ((0, True),)), (1, ((False, 1),)), (1, None), (1, ""), ("1", ()), (None, ()), ((1, ()),), (1, ((),)),
            (1, ("01",)), (1, ((0, 1), None)), (10 ** 400, ((10 ** 400, 1),)), (False, ()), ((), 1),
        ):
            self.assertIs(is_history(thing), False)

    def test_any_value(self):
        for thing in ODD_VALUES:
            with self.subTest(repr(thing)[:60]):
                flat = isinstance(thing, tuple) and all(repr(own).isdigit() for own in thing)
                self.assertIs(is_text(thing), flat)
                self.assertIs(is_word(thing), flat and 0 not in thing)
                self.assertIs(is_history(thing), False)

    def test_nearly_a_history(self):
        for thing in variants((3, ((2, 1), (0, 0)))):
            with self.subTest(repr(thing)):
                self.assertIs(is_history(thing), thing == (3, ()) and isinstance(thing[1], tuple))

    def test_nearly_a_word(self):
        for thing in variants((1, 2)):
            with self.subTest(repr(thing)):
                self.assertIs(is_word(thing), repr(thing) == "()")


class Texts(unittest.TestCase):
    def test_reads(self):
        self.assertEqual(reads(()), ())
        self.assertEqual(reads((0, 0)), ())
        self.assertEqual(reads((3, 0, 1, 0, 0, 3)), (3, 1, 3))
        self.assertEqual(reads(LONG_WORD), LONG_WORD)

    def test_changed(self):
        self.assertEqual(changed((0, 0, 1), (0, 3)), (3, 0, 1))
        self.assertEqual(changed((0, 0, 1), (2, 0)), (0, 0, 0))
        self.assertEqual(changed((2,), (0, 2)), (2,))

    def test_no_place(self):
        for text, place in (((), 0), ((1,), 1), ((0, 1), 2), ((0,) * 60, 60), ((1, 2), 10 ** 30)):
            for letter in (0, 1):
                with self.assertRaises(NoPlace) as caught:
                    changed(text, (place, letter))
                self.assertEqual(caught.exception.place, place)

    def test_behind_and_along(self):
        history = (3, ((2, 1), (0, 2), (2, 3), (1, 0), (2, 0)))
        texts = [(0, 0, 0), (0, 0, 1), (2, 0, 1), (2, 0, 3), (2, 0, 3), (2, 0, 0)]
        self.assertEqual(texts_along(history), texts)
        self.assertEqual(text_behind(history), texts[-1])

    def test_without_changes(self):
        self.assertEqual(text_behind((4, ())), (0, 0, 0, 0))
        self.assertEqual(texts_along((1, ())), [(0,)])

    def test_long_history(self):
        text, texts = (0,) * 60, [(0,) * 60]
        for place, letter in LONG_HISTORY[1]:
            text = text[:place] + (letter,) + text[place + 1:]
            texts.append(text)
        self.assertEqual(texts_along(LONG_HISTORY), texts)
        self.assertEqual(text_behind(LONG_HISTORY), text)
        self.assertEqual(len(texts), 401)


class Histories(unittest.TestCase):
    def test_plain(self):
        self.assertEqual(plain(()), (1, ()))
        self.assertEqual(plain((3,)), (1, ((0, 3),)))
        self.assertEqual(plain((1, 1, 2)), (3, ((0, 1), (1, 1), (2, 2))))
        self.assertEqual(plain(LONG_WORD)[0], 60)
        self.assertEqual(text_behind(plain(LONG_WORD)), LONG_WORD)

    def test_beside(self):
        self.assertEqual(beside((1, ()), (2, ())), (3, ()))
        self.assertEqual(beside((1, ()), (2, ((0, 1), (1, 0)))), (3, ((1, 1), (2, 0))))
        self.assertEqual(beside((2, ((0, 1),)), (1, ())), (3, ((0, 1),)))
        both = beside(LONG_HISTORY, LONG_HISTORY)
        self.assertEqual(text_behind(both), text_behind(LONG_HISTORY) * 2)
        self.assertEqual((both[0], len(both[1])), (120, 800))

    def test_beside_is_made_of_tuples(self):
        both = beside([2, [[0, 1]]], [1, [[0, 2]]])
        self.assertEqual(repr(both), "(3, ((0, 1), (2, 2)))")

    def test_puts_only(self):
        for changes, expected in (
            ((), True), (((0, 1),), True), (((2, 1), (0, 3), (1, 1)), True), (((0, 0),), False),
            (((0, 1), (0, 1)), False), (((0, 1), (0, 2)), False), (((0, 1), (0, 0)), False), (((0, 1), (1, 0)), False),
        ):
            self.assertIs(puts_only((3, changes)), expected)

    def test_takes_back(self):
        for changes, expected in (
            ((), True), (((0, 1),), True), (((0, 1), (0, 0)), True), (((0, 1), (0, 0), (0, 2), (0, 0)), True),
            (((0, 0),), False), (((0, 1), (1, 0)), False), (((0, 1), (0, 2)), False), (((0, 1), (0, 1)), False),
            (((0, 1), (0, 0), (0, 0)), False), (((0, 1), (1, 1), (0, 0)), False),
            (((0, 1), (1, 1), (1, 0), (0, 0)), True), (((0, 1), (1, 1), (1, 0), (1, 0)), False),
            (((0, 1), (1, 1), (1, 0), (2, 3), (1, 1), (1, 0), (2, 0), (0, 0)), True),
            (((0, 1), (1, 1), (1, 0), (2, 3), (0, 0)), False),
        ):
            self.assertIs(takes_back((3, changes)), expected)

    def test_long_ones(self):
        puts = tuple([(at, 1) for at in range(60)])
        back = tuple([(at, 0) for at in reversed(range(60))])
        self.assertIs(puts_only((60, puts)), True)
        self.assertIs(puts_only((60, puts + ((59, 0),))), False)
        self.assertIs(takes_back((60, puts + back + puts + back)), True)
        self.assertIs(takes_back((60, puts + back + puts + back + ((0, 0),))), False)
        self.assertIs(takes_back((60, puts + back[::-1])), False)
        self.assertIs(takes_back(LONG_HISTORY), False)


if __name__ == "__main__":
    unittest.main()
