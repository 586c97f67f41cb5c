"""[13]: laps, twins, and machines that are no group's."""

import unittest
from itertools import product as all_rows
from math import lcm
from random import Random

from calls import refused
from odd_values import ODD_VALUES, variants
from placehues.books import is_book
from placehues.doings import is_group
from placehues.laps import is_twins, lap, standing_machine, stuck_parting, twins
from placehues.machines import is_machine, least, takes
from placehues.words import is_history
from plain_books import (
    PARITY, SIDES, STILL, all_histories, dull_book, going_round, plain_parts, plain_reads, plain_stands, plain_text, plain_turned,
    some_book, some_books,
)
from plain_groups import BIG, FIRST, FIVE, NO_GROUPS, ODD, SOME, SQUARE, THREE
from plain_search import small_machines, some_machines, words_upto

NO_ENDS = ((), ())
TWICE = ((False, True, True), (0, 1), (0, 0), tuple([tuple([tuple([
    (min(f + t, 2) if t > h else max(f - h, 0) if t < h else f, t, STILL, STILL)
    for t in (0, 1)]) for h in (0, 1)]) for f in (0, 1, 2)]))


def cycles(*lengths):
    """A BOOK whose free HUES are sent about in rounds of these lengths, to the left."""
    left, still = going_round(*lengths)
    many = len(still) - 1
    line = ((0, 0, left, still), (0, many, left, still))
    return ((True,), (0,) * many + (1,), (0, 0), ((line,) * (many + 1),))


def filled(word, around, blocks, more):
    """The HISTORY that fills so many blocks, and so many more stay free."""
    size, start = len(word), len(around[0])
    many = start + (blocks + more) * size + len(around[1])
    changes = [(at, letter) for at, letter in enumerate(around[0])]
    changes += [(many - len(around[1]) + at, letter) for at, letter in enumerate(around[1])]
    changes += [(start + block * size + at, letter) for block in range(blocks) for at, letter in enumerate(word)]
    return many, tuple(changes)


def plain_pairs(book, word, around, longest):
    """The pairs behind 0, 1, .. blocks."""
    pairs = []
    for blocks in range(longest + 1):
        flag, hues = plain_stands(book, filled(word, around, blocks, 2))[-1]
        start = len(around[0]) + blocks * len(word)
        between = set(hues[start:start + 2 * len(word)])
        assert len(between) == 1
        pairs.append((flag, between.pop()))
    return pairs


def plain_lap(book, word, around):
    pairs = plain_pairs(book, word, around, 2 * len(book[0]) * len(book[1]) + 2)
    lead = [at for at, pair in enumerate(pairs) if pair in pairs[at + 1:]][0]
    period = pairs.index(pairs[lead], lead + 1) - lead

    def put_left(blocks):
        """Where each HUE left of all is put by so many blocks behind lead."""
        size, start = len(word), len(around[0]) + lead * len(word)
        flag, hues = plain_stands(book, filled(word, around, lead, blocks))[-1]
        put = []
        for hue in range(len(book[1])):
            stand = (flag, (hue,) + hues)
            for at in range(blocks * size):
                stand = plain_turned(book, stand, (1 + start + at, word[at % size]))
            put.append(stand[1][0])
        return put

    laps = 1
    while put_left(laps * period) != put_left(2 * laps * period):
        laps += 1
    return lead, period, laps


def plain_twins(book, word, around):
    lead, period, laps = plain_lap(book, word, around)
    size, start, row = len(word), len(around[0]), laps * period
    told = []
    for rounds in (2, 3):
        many, changes = filled(word, around, lead + rounds * row, 0)

        def emptied(first, last):
            return tuple([(start + at, 0) for at in range(first * size, last * size)])

        changes += emptied(lead + (rounds - 1) * row, lead + rounds * row)
        changes += emptied(0, lead) + emptied(lead, lead + row)
        told.append((many, changes))
    return tuple(told)


class Laps(unittest.TestCase):
    def arounds(self, letters):
        ends = [own for own in ((), (1,), (1, 1), (2, 1)) if max(own + (0,)) <= letters]
        return list(all_rows(ends, repeat=2))

    def test_beside_plain_filling(self):
        mixed = Random(1)
        seen = set()
        for book in some_books(80, 2, letters=(1, 2)) + [PARITY, SIDES, TWICE]:
            letters = max(book[1])
            word = mixed.choice([own for own in words_upto(letters, 3) if own])
            around = mixed.choice(self.arounds(letters))
            expected = plain_lap(book, word, around)
            seen.add(expected)
            with self.subTest(book, word=word, around=around):
                self.assertEqual(lap(book, word, around), expected)
        for at in range(3):
            self.assertGreater(len({own[at] for own in seen}), 2)

    def test_twins(self):
        mixed = Random(3)
        for book in some_books(60, 4, letters=(1, 2)) + [PARITY, SIDES, TWICE]:
            letters = max(book[1])
            word = mixed.choice([own for own in words_upto(letters, 3) if own])
            around = mixed.choice(self.arounds(letters))
            one, other = plain_twins(book, word, around)
            with self.subTest(book, word=word, around=around):
                self.assertEqual(twins(book, word, around), (one, other))
                self.assertEqual(plain_stands(book, one)[-1][0], plain_stands(book, other)[-1][0])
                self.assertEqual(plain_reads(plain_text(one)), around[0] + around[1])
                self.assertEqual(plain_text(one).count(0), len(plain_text(one)) - len(around[0] + around[1]))
                self.assertIs(is_twins(book, word, around, (one, other)), True)
                self.assertIs(is_twins(book, word, around, (other, one)), False)

    def test_by_hand(self):
        self.assertEqual(lap(dull_book(3, True), (3, 2, 1), ((1,), (2,))), (0, 1, 1))
        self.assertEqual(lap(TWICE, (1,), ((1,), ())), (1, 1, 1))
        self.assertEqual(lap(TWICE, (1,), ((), (1,))), (1, 1, 1))
        self.assertEqual(lap(TWICE, (1, 1), ((1,), (1,))), (0, 1, 1))
        self.assertEqual(lap(PARITY, (1,) * 59, NO_ENDS), (0, 2, 1))

    def test_long_rounds(self):
        for lengths in ((2, 3), (4, 6), (5, 7, 2), (2, 3, 5, 7, 11, 13)):
            book = cycles(*lengths)
            self.assertIs(is_book(book), True)
            self.assertEqual(lap(book, (1,), NO_ENDS), (0, 1, lcm(*lengths)))
            self.assertEqual(lap(book, (1, 1), NO_ENDS), (0, 1, lcm(*lengths) // (2 if lcm(*lengths) % 2 == 0 else 1)))

    def test_rounds_that_are_come_to(self):
        # 0 to 1 to 2 to 3 to 4 to 3: a lap must be two or more, and five steps lead in
        left = (1, 2, 3, 4, 5, 4, 6)
        line = ((0, 0, left, tuple(range(7))), (0, 6, left, tuple(range(7))))
        book = ((True,), (0,) * 6 + (1,), (0, 0), ((line,) * 7,))
        self.assertIs(is_book(book), True)
        self.assertEqual(lap(book, (1,), NO_ENDS), (0, 1, 4))
        self.assertEqual(lap(book, (1,) * 3, NO_ENDS), (0, 1, 2))
        self.assertEqual(lap(book, (1,) * 4, NO_ENDS), (0, 1, 1))
        left = (1, 2, 3, 4, 5, 3, 6)
        line = ((0, 0, left, tuple(range(7))), (0, 6, left, tuple(range(7))))
        self.assertEqual(lap(((True,), (0,) * 6 + (1,), (0, 0), ((line,) * 7,)), (1,), NO_ENDS), (0, 1, 3))

    def test_too_much(self):
        # five times an even WORD
        self.assertEqual(len(twins(PARITY, (1,) * 400, NO_ENDS)[1][1]), 2000)
        self.assertEqual(refused(twins, PARITY, (1,) * 400, ((1,), ())), "TooMuch")
        self.assertEqual(refused(twins, PARITY, (1,) * 400, ((), (1,))), "TooMuch")
        self.assertEqual(refused(twins, PARITY, (1,) * 402, NO_ENDS), "TooMuch")
        # the first one alone would have fewer
        self.assertEqual(len(twins(PARITY, (1,) * 199, NO_ENDS)[1][1]), 1990)
        self.assertEqual(refused(twins, PARITY, (1,) * 201, NO_ENDS), "TooMuch")
        self.assertEqual(refused(twins, cycles(2, 3, 5, 7, 11, 13), (1,), NO_ENDS), "TooMuch")
        # a lead counts twice, once filled and once emptied
        self.assertEqual(lap(TWICE, (1,) * 285, NO_ENDS), (1, 1, 1))
        self.assertEqual(len(twins(TWICE, (1,) * 285, NO_ENDS)[1][1]), 1995)
        self.assertEqual(refused(twins, TWICE, (1,) * 286, NO_ENDS), "TooMuch")
        self.assertEqual(len(twins(cycles(8, 5, 7), (1,), NO_ENDS)[1][1]), 1400)


class Twins(unittest.TestCase):
    PAIR = twins(PARITY, (1,), NO_ENDS)

    def plain_is_twins(self, book, word, around, one, other):
        if plain_stands(book, one)[-1][0] != plain_stands(book, other)[-1][0]:
            return False
        if plain_reads(plain_text(one)) != around[0] + around[1]:
            return False
        read = plain_reads(plain_text(other))
        return read in [around[0] + word * times + around[1] for times in range(1, len(read) + 1)]

    def test_all_short_ones(self):
        seen = {True: 0, False: 0}
        for book in some_books(4, 5, letters=(1,)) + some_books(2, 6, letters=(2,)) + [PARITY]:
            letters = max(book[1])
            histories = list(all_histories(letters, 2, 2)) + list(all_histories(letters, 3, 1))
            for one, other in all_rows(histories[::2], histories):
                for word, around in (((1,), NO_ENDS), ((1, 1), NO_ENDS), ((1,), ((1,), ())), ((letters,), ((), (1,)))):
                    expected = self.plain_is_twins(book, word, around, one, other)
                    seen[expected] += 1
                    self.assertIs(is_twins(book, word, around, (one, other)), expected)
        self.assertGreater(seen[True], 300)

    def test_letters_that_are_not_there(self):
        strange = (2, ((0, 2), (0, 0)))
        self.assertIs(is_twins(dull_book(1, True), (1,), NO_ENDS, ((2, ()), (2, ((0, 1),)))), True)
        self.assertIs(is_twins(dull_book(1, True), (1,), NO_ENDS, (strange, (2, ((0, 1),)))), False)
        self.assertIs(is_twins(dull_book(1, True), (1,), NO_ENDS, ((2, ()), (2, strange[1] + ((0, 1),)))), False)

    def test_ends_and_lists(self):
        book = dull_book(2, True)
        one, other = (3, ((0, 1), (2, 2))), (5, ((0, 1), (1, 2), (2, 1), (3, 2), (4, 2)))
        self.assertIs(is_twins(book, (2,), ((1,), (2,)), (one, other)), False)
        self.assertIs(is_twins(book, (2, 1), ((1,), (2, )), (one, (4, ((0, 1), (1, 2), (2, 1), (3, 2))))), True)
        self.assertIs(is_twins(book, [2, 1], [[1], [2]], (one, (4, ((0, 1), (1, 2), (2, 1), (3, 2))))), True)
        self.assertIs(is_twins(book, (2, 1), ((1,), (2,)), (one, one)), False)
        self.assertIs(is_twins(book, (2, 2), ((1,), (2,)), (one, (3, ((0, 1), (1, 2), (2, 2))))), False)

    def test_any_value(self):
        for thing in ODD_VALUES:
            self.assertIs(is_twins(PARITY, (1,), NO_ENDS, thing), False)
            self.assertIs(is_twins(PARITY, (1,), NO_ENDS, (self.PAIR[0], thing)), False)
            self.assertIs(is_twins(PARITY, (1,), NO_ENDS, (thing, self.PAIR[1])), repr(thing) == "(1, ())")

    def test_nearly(self):
        pair = ((2, ()), (2, ((0, 1), (1, 1))))
        self.assertIs(is_twins(PARITY, (1,), NO_ENDS, pair), True)
        for thing in variants(pair):
            fit = type(thing) is tuple and len(thing) == 2 and all(is_history(own) for own in thing)
            fit = fit and all(letter < 2 for own in thing for _, letter in own[1])
            expected = fit and self.plain_is_twins(PARITY, (1,), NO_ENDS, *thing)
            self.assertIs(is_twins(PARITY, (1,), NO_ENDS, thing), expected, thing)

    def test_many_places(self):
        thing = ((10000, ()), (10000, ((17, 1), (9999, 1))))
        self.assertIs(is_twins(PARITY, (1,), NO_ENDS, thing), True)
        self.assertIs(is_twins(PARITY, (1, 1, 1), NO_ENDS, thing), False)


class Machines(unittest.TestCase):
    def test_standing(self):
        for letters in (1, 2, 3):
            for letter in range(1, letters + 1):
                machine = standing_machine(letters, letter)
                self.assertIs(is_machine(machine), True)
                self.assertEqual(least(machine), machine)
                for word in words_upto(letters, 4):
                    self.assertIs(takes(machine, word), letter in word)
        self.assertEqual(standing_machine(3, 2), (((0, 1, 0), (1, 1, 1)), (1,)))


class StuckPartings(unittest.TestCase):
    def machines(self):
        yield from NO_GROUPS
        for states, letters in ((2, 1), (3, 1), (2, 2)):
            yield from small_machines(states, letters)
        yield from some_machines(60, 3, 2, 31)
        yield from some_machines(20, 2, 3, 32)

    def test_all_that_are_no_groups(self):
        mixed = Random(7)
        parted = 0
        for machine in self.machines():
            letters = len(machine[0][0])
            for going_by in ("all", "flag", "nobody"):
                book = some_book(mixed, letters, going_by)
                told = refused(stuck_parting, book, machine)
                self.assertEqual(told, "Unfit" if is_group(machine) else None)
                if told is None:
                    history = stuck_parting(book, machine)
                    self.assertIs(is_history(history), True)
                    self.assertIs(plain_parts(book, machine, history), True)
                    parted += 1
        self.assertGreater(parted, 300)

    def test_refusals(self):
        for machine in (BIG, FIVE):
            book = dull_book(len(machine[0][0]), True)
            self.assertEqual(refused(stuck_parting, book, machine), "TooMuch")
        for machine in (ODD, THREE, SQUARE):
            self.assertEqual(refused(stuck_parting, dull_book(len(machine[0][0]), True), machine), "Unfit")
        # no group's MACHINE is asked ahead of how long the twins are
        long = cycles(2, 3, 5, 7, 11, 13)
        self.assertEqual(refused(stuck_parting, long, SOME), "TooMuch")
        self.assertEqual(refused(stuck_parting, long, ODD), "Unfit")
        self.assertEqual(refused(stuck_parting, cycles(8, 5, 7), SOME), None)

    def test_it_has_just_as_many_changes_as_it_may(self):
        # cycles of 400 in all: five times 400
        book = cycles(16, 25)
        self.assertEqual(len(twins(book, (1,), NO_ENDS)[1][1]), 2000)
        self.assertIs(plain_parts(book, SOME, stuck_parting(book, SOME)), True)
        self.assertEqual(refused(stuck_parting, cycles(13, 31), SOME), "TooMuch")

    def test_first(self):
        for book in some_books(20, 8, letters=(2,)):
            self.assertIs(plain_parts(book, FIRST, stuck_parting(book, FIRST)), True)


if __name__ == "__main__":
    unittest.main()
