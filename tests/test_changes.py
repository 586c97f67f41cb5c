"""[15]: letters that are only put, or taken back in reverse order."""

import unittest
from itertools import permutations
from itertools import product as all_rows
from random import Random

from calls import refused
from odd_values import ODD_VALUES, variants
from placehues.books import is_book
from placehues.changes import (
    back_book, is_put_right, is_swap, put_book, put_flags, put_parting, put_stack, put_word, swap_of,
)
from placehues.doings import doings
from placehues.fewest import hues_of
from placehues.told import goes_by
from plain_books import PARITY, SIDES, all_histories, dull_book, following, plain_parts, some_book
from plain_groups import BIG, FIRST, FIVE, FULL, ODD, RING, SOME, SQUARE, THREE
from plain_search import Plain, does_take, small_machines, some_machines, words_upto

LAST = (((1, 2), (1, 2), (1, 2)), (1,))
TO_TWO = (((1, 0), (2, 1), (2, 2)), (2,))


def machines():
    yield from [ODD, SOME, FIRST, LAST, THREE, SQUARE, TO_TWO]
    for states, letters in ((1, 1), (2, 1), (1, 2), (2, 2)):
        yield from small_machines(states, letters)
    yield from small_machines(3, 1)
    yield from some_machines(40, 3, 2, 51)
    yield from some_machines(10, 2, 3, 52)


def plain_puts_only(history):
    text = [0] * history[0]
    for place, letter in history[1]:
        if letter == 0 or text[place] != 0:
            return False
        text[place] = letter
    return True


def plain_stack(history):
    """What stands, the first put ahead; None if the HISTORY does not take back."""
    stack = []
    for place, letter in history[1]:
        if letter > 0 and place not in [at for at, _ in stack]:
            stack.append((place, letter))
        elif letter == 0 and stack and stack[-1][0] == place:
            stack.pop()
        else:
            return None
    return tuple(stack)


def all_puts(letters, longest):
    """All HISTORIES that only put, at all of so many places at most, in all orders."""
    yield 1, ()
    for many in range(1, longest + 1):
        for word in all_rows(range(1, letters + 1), repeat=many):
            for order in permutations(range(many)):
                yield many, tuple(zip(order, word))


class Swaps(unittest.TestCase):
    def test_beside_plain_search(self):
        seen = {True: 0, False: 0}
        for machine in machines():
            plain = Plain(machine)
            seen[plain.commutes()] += 1
            with self.subTest(machine):
                if plain.commutes():
                    self.assertEqual(refused(swap_of, machine), "CanNot")
                    continue
                one, other = plain.crossed()
                ahead, behind = plain.surroundings(plain.doing((one, other)), plain.doing((other, one)))
                self.assertEqual(swap_of(machine), (ahead, one, other, behind))
                self.assertIs(is_swap(machine, swap_of(machine)), True)
        self.assertGreater(min(seen.values()), 20)

    def test_all_short_ones(self):
        for machine in (FIRST, LAST, THREE, SOME, TO_TWO):
            letters = len(machine[0][0])
            words = list(words_upto(letters, 2))
            for ahead, one, other, behind in all_rows(words, range(letters + 2), range(letters + 2), words):
                fit = 0 < min(one, other) and max(one, other) <= letters
                expected = fit and (
                    does_take(machine, ahead + (one, other) + behind)
                    != does_take(machine, ahead + (other, one) + behind))
                self.assertIs(is_swap(machine, (ahead, one, other, behind)), expected)

    def test_letters_that_are_not_there(self):
        self.assertIs(is_swap(FIRST, ((), 1, 2, ())), True)
        for thing in (((3,), 1, 2, ()), ((), 1, 2, (3,)), ((), 3, 2, ()), ((), 1, 3, ()), ((0,), 1, 2, ())):
            self.assertIs(is_swap(FIRST, thing), False)

    def test_any_value(self):
        for thing in ODD_VALUES:
            self.assertIs(is_swap(FIRST, thing), False)
            self.assertIs(is_swap(FIRST, (thing, 1, 2, ())), repr(thing) == "()")
            self.assertIs(is_swap(FIRST, ((), thing, 2, ())), repr(thing) == "1")
            self.assertIs(is_swap(FIRST, ((), 1, thing, ())), repr(thing) == "2")

    def test_nearly(self):
        for thing in variants(((), 1, 2, (1,))):
            fit = isinstance(thing, tuple) and repr(thing) in ("((), 1, 2, ())",)
            self.assertIs(is_swap(FIRST, thing), fit, thing)

    def test_long_words_and_too_many_doings(self):
        self.assertIs(is_swap(FIRST, ((), 1, 2, (1,) * 20000)), True)
        self.assertIs(is_swap(FIRST, ((2,) * 20000, 1, 2, ())), False)
        self.assertIs(is_swap(FIVE, ((), 1, 2, ())), True)
        self.assertIs(is_swap(BIG, None), False)
        self.assertEqual([refused(swap_of, own) for own in (BIG, FIVE)], ["TooMuch"] * 2)


class PutHistories(unittest.TestCase):
    def test_all_short_ones(self):
        seen = [0, 0, 0]
        for history in list(all_histories(2, 2, 4)) + list(all_histories(1, 3, 4)):
            if plain_puts_only(history):
                seen[0] += 1
                self.assertEqual(put_word(history), tuple([letter for _, letter in history[1]]))
            else:
                self.assertEqual(refused(put_word, history), "Unfit")
            stack = plain_stack(history)
            seen[1 if stack is None else 2] += 1
            if stack is None:
                self.assertEqual(refused(put_stack, history), "Unfit")
            else:
                self.assertEqual(put_stack(history), stack)
        self.assertGreater(min(seen), 20)

    def test_by_hand(self):
        self.assertEqual((put_word((7, ())), put_stack((7, ()))), ((), ()))
        self.assertEqual(put_stack((3, ((2, 3), (0, 1), (0, 0), (0, 2), (0, 0), (2, 0)))), ())
        # 0 where nothing stands is no put, and takes nothing back
        for history in ((1, ((0, 0),)), (2, ((0, 1), (1, 0)))):
            self.assertEqual((refused(put_word, history), refused(put_stack, history)), ("Unfit", "Unfit"))
        self.assertEqual(refused(put_stack, (2, ((0, 1), (0, 1)))), "Unfit")
        self.assertEqual(refused(put_stack, (2, ((0, 1), (0, 2)))), "Unfit")


class MadeBooks(unittest.TestCase):
    def test_all(self):
        made = 0
        for machine in machines():
            plain = Plain(machine)
            with self.subTest(machine):
                if not plain.commutes():
                    for function in (put_flags, put_book, back_book):
                        self.assertEqual(refused(function, machine), "CanNot")
                    continue
                made += 1
                self.assertEqual(put_flags(machine), len(plain.doings()))
                self.one(machine, put_book(machine), back_book(machine))
        self.assertGreater(made, 50)

    def one(self, machine, puts, backs):
        letters = len(machine[0][0])
        for book in (puts, backs):
            self.assertIs(is_book(book), True)
            self.assertIs(goes_by(book, "nobody"), True)
            self.assertIs(is_put_right(book, machine), True)
        self.assertEqual(hues_of(puts), (1,) * (letters + 1))
        self.assertEqual(len(puts[0]), put_flags(machine))
        for history in all_puts(letters, 4 if letters < 3 else 3):
            self.assertIs(plain_parts(puts, machine, history), False)
        many = 4 if letters == 1 else 3
        for history in all_histories(letters, many, 4):
            if plain_stack(history) is not None:
                self.assertIs(plain_parts(backs, machine, history), False)

    def test_longer_ones(self):
        mixed = Random(2)
        for machine in (SOME, ODD, RING, TO_TWO, (((1, 0), (2, 1), (3, 2), (1, 3)), (2,))):
            letters, backs = len(machine[0][0]), back_book(machine)
            for _ in range(60):
                changes, stack = [], []
                for _ in range(40):
                    free = [at for at in range(12) if at not in stack]
                    if stack and (mixed.random() < 0.45 or not free):
                        changes.append((stack.pop(), 0))
                    else:
                        stack.append(mixed.choice(free))
                        changes.append((stack[-1], mixed.randrange(1, letters + 1)))
                self.assertIs(plain_parts(backs, machine, (12, tuple(changes))), False)

    def test_many_doings(self):
        ring = (tuple([((at + 1) % 48, (at + 5) % 48, at) for at in range(48)]), (0, 7))
        self.assertEqual(put_flags(ring), 48)
        self.assertEqual((len(put_book(ring)[0]), hues_of(put_book(ring))), (48, (1, 1, 1, 1)))
        self.assertIs(is_book(back_book(ring)), True)
        more = (tuple([((at + 1) % 49,) for at in range(49)]), (0,))
        for machine in (more, BIG, FIVE):
            for function in (put_flags, put_book, back_book):
                self.assertEqual(refused(function, machine), "TooMuch")

    def test_no_fewer_flags(self):
        # all BOOKS that go by "nobody" with one HUE for each letter, and one FLAG less
        for machine in (ODD, SOME, (((1,), (2,), (2,)), (2,)), (((1,), (2,), (0,)), (0,))):
            flags = put_flags(machine) - 1
            for leads in all_rows(range(flags), repeat=flags):
                for answers in all_rows((False, True), repeat=flags):
                    rows = tuple([(((0, 0, (0, 1), (0, 1)), (lead, 1, (0, 1), (0, 1))),) * 2 for lead in leads])
                    self.assertIs(is_put_right((answers, (0, 1), (0, 0), rows), machine), False)


class PutPartings(unittest.TestCase):
    def test_beside_plain_search(self):
        mixed = Random(3)
        seen = {True: 0, False: 0}
        some = [own for letters in (1, 2) for own in small_machines(2, letters)]
        for _ in range(400):
            machine = mixed.choice(some)
            letters = len(machine[0][0])
            book = some_book(mixed, letters, "nobody", 2, 2)
            if mixed.random() < 0.4 and refused(put_book, machine) is None:
                book = put_book(machine)
            # two FLAGS and two STATES: what parts needs four letters at most
            expected = not any([plain_parts(book, machine, own) for own in all_puts(letters, 4)])
            seen[expected] += 1
            with self.subTest(book, machine=machine):
                self.assertIs(is_put_right(book, machine), expected)
                if expected:
                    self.assertEqual(refused(put_parting, book, machine), "CanNot")
                else:
                    history = put_parting(book, machine)
                    self.assertIs(plain_puts_only(history), True)
                    self.assertIs(plain_parts(book, machine, history), True)
        self.assertGreater(min(seen.values()), 50)

    def test_greater_machines(self):
        mixed = Random(4)
        for machine in machines():
            letters = len(machine[0][0])
            for _ in range(3):
                book = some_book(mixed, letters, "nobody")
                if not is_put_right(book, machine):
                    history = put_parting(book, machine)
                    self.assertIs(plain_puts_only(history), True)
                    self.assertIs(plain_parts(book, machine, history), True)

    def test_alike_but_for_the_order(self):
        # the FLAGS are the STATES: right for plain HISTORIES, and the order of the puts is not that of the places
        for machine in (FIRST, LAST, THREE, SQUARE):
            book = following(machine)
            self.assertIs(is_put_right(book, machine), False)
            self.assertIs(plain_parts(book, machine, put_parting(book, machine)), True)

    def test_begun_elsewhere(self):
        # the same as PARITY with FLAGS and HUES of 0 in another order
        still = (0, 1, 2)
        rows = tuple([tuple([
            tuple([(f if t == (h == 0) else 1 - f, 0 if t else 2, still, still) for t in (0, 1)]) for h in still
        ]) for f in (0, 1)])
        book = ((True, False), (1, 0, 0), (1, 1), rows)
        self.assertIs(is_book(book), True)
        self.assertIs(is_put_right(book, ODD), True)
        self.assertIs(is_put_right(book, SOME), False)

    def test_refusals(self):
        for function in (is_put_right, put_parting):
            self.assertEqual(refused(function, PARITY, FIRST), "Unfit")
            self.assertEqual(refused(function, PARITY, BIG), "Unfit")
            self.assertEqual(refused(function, SIDES, ODD), "Unfit")
            self.assertEqual(refused(function, dull_book(3, True), BIG), "TooMuch")
            self.assertEqual(refused(function, dull_book(2, True), FIVE), "TooMuch")
            self.assertEqual(refused(function, dull_book(2, True), FULL), None)
            # what goes by another word is told ahead of how many DOINGS there are
            touched = some_book(Random(1), 3, "all")
            self.assertIs(goes_by(touched, "nobody"), False)
            self.assertEqual(refused(function, touched, BIG), "Unfit")

    def test_doings(self):
        self.assertEqual(put_flags(RING), len(doings(RING)))


if __name__ == "__main__":
    unittest.main()
