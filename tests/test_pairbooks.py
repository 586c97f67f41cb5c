"""[18]: PAIRBOOKS, what comes together in them, and the MACHINES for which they are right."""

import unittest
from itertools import product as all_rows
from random import Random

from calls import refused
from odd_values import ODD_VALUES, variants
from placehues.doings import doings
from placehues.machines import least
from placehues.pairbooks import (
    comes, crowded_tint, fewest_tints, folded_tints, is_pair_parting, is_pair_right, is_pairbook, is_unsteady_pair,
    pair_answer, pair_machine, pair_parting, pairs_parted, tint_between, tint_book, tints_that_come, unsteady_pair,
)
from placehues.words import is_history
from plain_books import all_histories, plain_reads, plain_text, some_history
from plain_groups import ALL, BIG, FIRST, FIVE, FULL, NONE, ODD, RING, SOME, SQUARE, THREE
from plain_pairs import (
    bent_pairbook, orders, plain_pair_answer, plain_pair_parts, plain_tints, some_pairbook, split, together,
)
from plain_search import Plain, does_take, small_machines, some_machines, then, words_upto

LATEST = ((False, True), 0, (((0, 0), (1, 1)), ((0, 0), (1, 1))))
FLIPS = ((False, True), 0, (((0, 1), (1, 0)), ((1, 0), (0, 1))))
ANY = ((False, True), 0, (((0, 1), (1, 1)), ((1, 1), (1, 1))))
WIDE = ((False, True, True), 0, (((0, 1, 2), (1, 2, 1)), ((1, 1, 2), (2, 1, 1)), ((2, 2, 1), (1, 1, 2))))
MACHINES = [ODD, SOME, FIRST, THREE, SQUARE, ALL, NONE, (((1, 2), (1, 2), (1, 2)), (1,)), (((1,), (2,), (2,)), (2,))]


def counting(tints, letters, answers):
    """How many places were changed, by so many, is the TINT."""
    every = range(tints)
    table = tuple([tuple([tuple([(x + y + 1) % tints for y in every])] * (letters + 1)) for x in every])
    return answers, 0, table


def pairbooks(seed, count):
    mixed = Random(seed)
    for number in range(count):
        letters = mixed.choice((1, 2))
        machine = list(some_machines(1, mixed.choice((1, 2, 3)), letters, mixed.randrange(10 ** 6)))[0]
        if number % 3 == 0:
            yield some_pairbook(mixed, mixed.randrange(1, 5), letters), machine
        elif len(doings(machine)) < 9:
            pairbook = split(mixed, tint_book(machine), mixed.randrange(4))
            yield (bent_pairbook(mixed, pairbook) if number % 3 == 1 else pairbook), machine


class Kinds(unittest.TestCase):
    def test_any_value(self):
        for thing in ODD_VALUES:
            self.assertIs(is_pairbook(thing), False)
            self.assertIs(is_pairbook((thing,) + FLIPS[1:]), repr(thing) == "(True, True)")
            self.assertIs(is_pairbook((FLIPS[0], thing, FLIPS[2])), repr(thing) in ("0", "1"))
            self.assertIs(is_pairbook(FLIPS[:2] + (thing,)), False)
            self.assertIs(is_pairbook(FLIPS[:2] + ((thing, thing),)), False)
            self.assertIs(is_pairbook(FLIPS[:2] + (((thing, thing), (thing, thing)),)), False)

    def fit(self, thing):
        """By what the document says, of what is told by repr."""
        if not (type(thing) is tuple and len(thing) == 3):
            return False
        answers, begin, table = thing
        if not (type(answers) is tuple and answers and all([type(own) is bool for own in answers])):
            return False
        many = range(len(answers))
        if type(begin) is not int or begin not in many or type(table) is not tuple or len(table) != len(answers):
            return False
        if not all([type(own) is tuple and len(own) > 1 for own in table]) or len({len(own) for own in table}) > 1:
            return False
        lines = [line for own in table for line in own]
        if not all([type(line) is tuple and len(line) == len(answers) for line in lines]):
            return False
        return all([type(own) is int and own in many for line in lines for own in line])

    def test_nearly(self):
        for pairbook in (FLIPS, WIDE, ((True,), 0, (((0,), (0,)),))):
            self.assertIs(is_pairbook(pairbook), True)
            for thing in variants(pairbook):
                self.assertIs(is_pairbook(thing), self.fit(thing), thing)

    def test_by_hand(self):
        self.assertIs(is_pairbook(((True,), 0, (((0,),),))), False)
        self.assertIs(is_pairbook(((True,), 0, (((0,), (0,), (0,), (0,), (0,)),))), True)
        self.assertIs(is_pairbook(((True,) * 2, 0, (((0, 0), (0, 0)), ((0, 0), (0, 0), (0, 0))))), False)
        self.assertIs(is_pairbook(counting(60, 3, (True,) * 60)), True)


class Tints(unittest.TestCase):
    def test_each_two_places(self):
        mixed = Random(1)
        for _ in range(120):
            letters = mixed.choice((1, 2, 3))
            pairbook = some_pairbook(mixed, mixed.randrange(1, 6), letters)
            many, changes = some_history(mixed, letters, 7, 14)
            tints = plain_tints(pairbook, (many, changes))
            for (x, y), tint in tints.items():
                told = tint_between(pairbook, (many, changes), None if x < 0 else x, None if y == many else y)
                self.assertEqual(told, tint)
            self.assertIs(pair_answer(pairbook, (many, changes)), pairbook[0][tints[(-1, many)]])

    def test_no_place_and_the_wrong_way_about(self):
        history = (3, ((0, 1), (1, 1)))
        for x in (3, 4, -1, 10 ** 30):
            for y in (None, 0, 2, 3, -1):
                self.assertEqual(refused(tint_between, FLIPS, history, x, y), "NoPlace(%d)" % x)
        for y in (3, 4, -1, 10 ** 30):
            for x in (None, 0, 2):
                self.assertEqual(refused(tint_between, FLIPS, history, x, y), "NoPlace(%d)" % y)
        for x, y in ((0, 0), (1, 0), (2, 0), (2, 1), (2, 2)):
            self.assertEqual(refused(tint_between, FLIPS, history, x, y), "Unfit")
        for x, y in ((None, 0), (2, None), (None, None), (0, 1), (0, 2)):
            self.assertEqual(refused(tint_between, FLIPS, history, x, y), None)

    def test_long_histories(self):
        for changes in (tuple([(at, 1) for at in range(10000)]), tuple([(9999 - at, 1) for at in range(10000)])):
            self.assertIs(pair_answer(FLIPS, (10000, changes)), False)
            self.assertEqual(tint_between(FLIPS, (10000, changes), 0, None), 1)

    def test_the_ones_that_come(self):
        mixed = Random(2)
        sizes = set()
        for _ in range(150):
            letters = mixed.choice((1, 2))
            answers, begin, table = pairbook = some_pairbook(mixed, mixed.randrange(1, 7), letters)
            expected = together(begin, lambda x, k, y: table[x][k][y], letters)
            sizes.add((len(answers), len(expected)))
            self.assertEqual(tints_that_come(pairbook), tuple(sorted(expected)))
        self.assertGreater(len(sizes), 10)


class Coming(unittest.TestCase):
    def joint(self, pairbook, machine):
        plain = Plain(machine)
        ones = [plain.one] + [plain.doing((k,)) for k in range(1, plain.letters + 1)]

        def step(one, k, other):
            return pairbook[2][one[0]][k][other[0]], then(then(one[1], ones[k]), other[1])
        return plain, tuple(sorted(together((pairbook[1], plain.one), step, plain.letters)))

    def test_beside_plain_ones(self):
        seen = {}
        for pairbook, machine in pairbooks(3, 150):
            plain, expected = self.joint(pairbook, machine)
            taken = {own: does_take(machine, word) for own, word in plain.words.items()}
            right = all([pairbook[0][tint] == taken[own] for tint, own in expected])
            seen[right] = seen.get(right, 0) + 1
            with self.subTest(pairbook, machine=machine):
                self.assertEqual(comes(pairbook, machine), expected)
                self.assertIs(is_pair_right(pairbook, machine), right)
                crowds = [(t, d, e) for t, d in expected for u, e in expected if t == u and d < e]
                if crowds:
                    self.assertEqual(crowded_tint(pairbook, machine), min(crowds))
                    self.assertIs(right, False)
                else:
                    self.assertEqual(refused(crowded_tint, pairbook, machine), "CanNot")
                if right:
                    self.assertEqual(refused(pair_parting, pairbook, machine), "CanNot")
                else:
                    self.fewest(pairbook, machine, pair_parting(pairbook, machine))
        self.assertGreater(min(seen.values()), 30)

    def fewest(self, pairbook, machine, history):
        self.assertIs(is_history(history), True)
        self.assertIs(plain_pair_parts(pairbook, machine, history), True)
        for changes in range(min(4, len(history[1]))):
            for own in orders(len(machine[0][0]), changes):
                self.assertIs(plain_pair_parts(pairbook, machine, own), False)

    def test_all_short_histories(self):
        for pairbook, machine in list(pairbooks(4, 60)) + [(LATEST, SOME), (FLIPS, ODD)]:
            letters = len(machine[0][0])
            histories = list(all_histories(letters, 2, 3)) + list(all_histories(letters, 3, 2))
            parted = [own for own in histories if plain_pair_parts(pairbook, machine, own)]
            for own in histories:
                self.assertIs(is_pair_parting(pairbook, machine, own), own in parted)
            if parted:
                self.assertIs(is_pair_right(pairbook, machine), False)
                fewest = len(pair_parting(pairbook, machine)[1])
                self.assertLessEqual(fewest, min([len(changes) for _, changes in parted]))

    def test_is_parting(self):
        history = (3, ((0, 1), (1, 1)))
        self.assertIs(is_pair_parting(FLIPS, SOME, history), True)
        self.assertIs(is_pair_parting(FLIPS, SOME, (3, ((2, 2),) + history[1])), False)
        self.assertIs(is_pair_parting(FLIPS, SOME, (3, ((0, 2),) + history[1])), False)
        for thing in ODD_VALUES:
            self.assertIs(is_pair_parting(FLIPS, SOME, thing), False)
            self.assertIs(is_pair_parting(FLIPS, SOME, (3, thing)), False)
        for thing in variants(history):
            fit = is_history(thing) and all([letter < 2 for _, letter in thing[1]])
            expected = fit and plain_pair_parts(FLIPS, SOME, thing)
            self.assertIs(is_pair_parting(FLIPS, SOME, thing), expected, thing)
        # more than 48 DOINGS are no matter here
        self.assertIs(is_pair_parting(counting(2, 2, (True, True)), FIVE, (1, ((0, 1),))), True)
        self.assertIs(is_pair_parting(counting(2, 2, (True, True)), FIVE, (1, ())), False)


class Made(unittest.TestCase):
    def test_tint_books(self):
        mixed = Random(5)
        for machine in MACHINES + [RING, FULL] + list(some_machines(30, 3, 2, 61)):
            book, own = tint_book(machine), doings(machine)
            letters = len(machine[0][0])
            self.assertIs(is_pairbook(book), True)
            self.assertEqual((len(book[0]), fewest_tints(machine)), (len(own), len(own)))
            small = least(machine)
            self.assertEqual(book[1], own.index(tuple(range(len(small[0])))))
            for _ in range(20):
                history = some_history(mixed, letters, 6, 14)
                self.assertIs(plain_pair_parts(book, machine, history), False)
                word = plain_reads(plain_text(history))
                one = tuple([state for state in range(len(small[0]))])
                for letter in word:
                    one = then(one, tuple([row[letter - 1] for row in small[0]]))
                self.assertEqual(tint_between(book, history, None, None), own.index(one))
            if len(own) < 13:
                self.assertIs(is_pair_right(book, machine), True)
                self.assertEqual(pair_machine(book), small)
                self.assertEqual(folded_tints(book)[0].count(True), book[0].count(True))

    def test_none_with_fewer(self):
        # all PAIRBOOKS of two TINTS beside a MACHINE of three DOINGS
        rows = list(all_rows((0, 1), repeat=2))
        machine = (((1,), (2,), (2,)), (2,))
        self.assertEqual(fewest_tints(machine), 3)
        for lines in all_rows(rows, repeat=4):
            for answers in ((False, True), (True, False)):
                self.assertIs(is_pair_right((answers, 0, (lines[:2], lines[2:])), machine), False)

    def test_folded(self):
        mixed = Random(6)
        for pairbook, machine in pairbooks(7, 150):
            folded = folded_tints(pairbook)
            self.assertIs(is_pairbook(folded), True)
            self.assertEqual(folded, self.plain_folded(pairbook))
            self.assertEqual(folded_tints(folded), folded)
            self.assertIs(pairs_parted(pairbook, folded), None)
            if is_pair_right(pairbook, machine):
                # it is the right one of the MACHINE but for the numbers
                self.assertEqual(len(folded[0]), fewest_tints(machine))
                self.assertIs(is_pair_right(folded, machine), True)
                self.assertEqual(folded, folded_tints(split(mixed, folded, 0)) if len(folded[0]) == 1 else folded)

    def plain_folded(self, pairbook):
        """Each two TINTS are told apart from answers on, again and again."""
        answers, begin, table = pairbook
        letters = range(len(table[0]))
        own = sorted(together(begin, lambda x, k, y: table[x][k][y], len(table[0]) - 1))
        apart = {(x, y) for x in own for y in own if answers[x] != answers[y]}
        while True:
            more = {
                (x, y) for x in own for y in own if any([
                    (table[x][k][z], table[y][k][z]) in apart or (table[z][k][x], table[z][k][y]) in apart
                    for k in letters for z in own])
            }
            if more <= apart:
                break
            apart |= more
        firsts = sorted({min([y for y in own if (x, y) not in apart]) for x in own})

        def lot(tint):
            return [at for at, first in enumerate(firsts) if (first, tint) not in apart][0]
        rows = tuple([tuple([tuple([lot(table[x][k][y]) for y in firsts]) for k in letters]) for x in firsts])
        return tuple([answers[x] for x in firsts]), lot(begin), rows


class Parted(unittest.TestCase):
    def test_two_of_them(self):
        mixed = Random(8)
        seen = {}
        for _ in range(200):
            letters = mixed.choice((1, 2))
            one = some_pairbook(mixed, mixed.randrange(1, 5), letters)
            other = mixed.choice((
                some_pairbook(mixed, mixed.randrange(1, 5), letters), bent_pairbook(mixed, one),
                split(mixed, one, 2), bent_pairbook(mixed, split(mixed, one, 1))))
            history = pairs_parted(one, other)
            many = 4 if history is None else len(history[1])
            seen[many if history else None] = seen.get(many if history else None, 0) + 1
            if history is not None:
                self.assertIs(is_history(history), True)
                self.assertIs(plain_pair_answer(one, history), not plain_pair_answer(other, history))
            for changes in range(min(4, many)):
                for own in orders(letters, changes):
                    self.assertIs(plain_pair_answer(one, own), plain_pair_answer(other, own))
        self.assertGreater(min([seen[many] for many in (None, 0, 1, 2)]), 5, seen)

    def test_letters(self):
        self.assertEqual(refused(pairs_parted, FLIPS, counting(2, 2, (True, False))), "Unfit")


class Steady(unittest.TestCase):
    def test_beside_short_histories(self):
        seen = {}
        for pairbook, machine in list(pairbooks(9, 200)) + [(LATEST, SOME), (WIDE, SOME), (FLIPS, SOME), (ANY, ODD)]:
            letters = len(machine[0][0])
            told, unsteady = {}, False
            for history in [own for changes in range(5 - letters) for own in orders(letters, changes)]:
                own = plain_pair_answer(pairbook, history)
                unsteady |= told.setdefault(plain_reads(plain_text(history)), own) != own
            steady = refused(pair_machine, pairbook) is None
            seen[(steady, unsteady)] = seen.get((steady, unsteady), 0) + 1
            if unsteady:
                self.assertIs(steady, False)
            if steady:
                self.assertEqual(refused(unsteady_pair, pairbook), "CanNot")
                own = pair_machine(pairbook)
                self.assertEqual(least(own), own)
                self.assertIs(is_pair_right(pairbook, own), True)
                for word in words_upto(letters, 4):
                    self.assertIs(does_take(own, word), told.get(word, does_take(own, word)))
            else:
                self.assertEqual(refused(pair_machine, pairbook), "CanNot")
                self.one(pairbook, unsteady_pair(pairbook))
        self.assertEqual(len(seen), 3)
        self.assertGreater(seen[(True, False)], 30)
        self.assertGreater(seen[(False, True)], 30)

    def one(self, pairbook, pair):
        one, other = pair
        self.assertIs(is_history(one) and is_history(other), True)
        self.assertEqual(plain_reads(plain_text(one)), plain_reads(plain_text(other)))
        self.assertIs(plain_pair_answer(pairbook, one), not plain_pair_answer(pairbook, other))
        self.assertIs(is_unsteady_pair(pairbook, pair), True)

    def test_of_all_small_machines(self):
        for machine in list(small_machines(2, 1)) + list(small_machines(2, 2)):
            self.assertEqual(pair_machine(tint_book(machine)), least(machine))

    def test_greater_unsteady_ones(self):
        mixed = Random(10)
        for machine in (SQUARE, THREE, RING):
            for _ in range(6):
                pairbook = bent_pairbook(mixed, split(mixed, tint_book(machine), 5))
                if refused(pair_machine, pairbook) == "CanNot":
                    self.one(pairbook, unsteady_pair(pairbook))
        # its plain HISTORIES make a MACHINE of more than 48 DOINGS
        every = range(12)
        table = tuple([tuple([(x,) * 12] + [(row,) * 12 for row in BIG[0][x]]) for x in every])
        pairbook = (tuple([at in BIG[1] for at in every]), 0, table)
        self.assertEqual(refused(pair_machine, pairbook), "CanNot")
        self.one(pairbook, unsteady_pair(pairbook))

    def test_all_short_pairs(self):
        histories = list(all_histories(1, 2, 2))
        for pairbook in (LATEST, WIDE, some_pairbook(Random(3), 3, 1)):
            for one, other in all_rows(histories, repeat=2):
                expected = plain_reads(plain_text(one)) == plain_reads(plain_text(other))
                expected = expected and plain_pair_answer(pairbook, one) != plain_pair_answer(pairbook, other)
                self.assertIs(is_unsteady_pair(pairbook, (one, other)), expected)

    def test_any_value(self):
        pair = ((1, ((0, 1),)), (2, ((0, 1), (1, 0))))
        self.assertIs(is_unsteady_pair(LATEST, pair), True)
        self.assertIs(is_unsteady_pair(LATEST, (pair[0], (2, ((1, 2),) + pair[1][1]))), False)
        for thing in ODD_VALUES:
            self.assertIs(is_unsteady_pair(LATEST, thing), False)
            self.assertIs(is_unsteady_pair(LATEST, (pair[0], thing)), False)
            self.assertIs(is_unsteady_pair(LATEST, (thing, pair[1])), False)
        for thing in variants(pair):
            fit = isinstance(thing, tuple) and len(thing) == 2 and all([is_history(own) for own in thing])
            fit = fit and all([letter < 2 for own in thing for _, letter in own[1]])
            fit = fit and plain_reads(plain_text(thing[0])) == plain_reads(plain_text(thing[1]))
            expected = fit and plain_pair_answer(LATEST, thing[0]) != plain_pair_answer(LATEST, thing[1])
            self.assertIs(is_unsteady_pair(LATEST, thing), expected, thing)


class Bounds(unittest.TestCase):
    FOUR = (comes, is_pair_right, pair_parting, crowded_tint)

    def test_letters_ahead_of_all(self):
        for function in self.FOUR:
            self.assertEqual(refused(function, FLIPS, THREE), "Unfit")
            self.assertEqual(refused(function, FLIPS, BIG), "Unfit")
        for thing in (None, (1, ()), (1, ((0, 1),))):
            self.assertEqual(refused(is_pair_parting, FLIPS, THREE, thing), "Unfit")

    def test_many_doings(self):
        for function in self.FOUR:
            self.assertEqual(refused(function, counting(2, 3, (True, False)), BIG), "TooMuch")
        for machine in (BIG, FIVE):
            self.assertEqual([refused(own, machine) for own in (tint_book, fewest_tints)], ["TooMuch"] * 2)
        self.assertEqual(fewest_tints(FULL), 48)

    def ring(self, many):
        return (tuple([((at + 1) % many,) for at in range(many)]), (0,))

    def test_300_pairs(self):
        # CHANGES by so many, letters by so many: 12 times 25, and 7 times 43
        for tints, many, told in ((25, 12, None), (43, 7, "TooMuch"), (48, 12, "TooMuch")):
            pairbook = counting(tints, 1, (True,) + (False,) * (tints - 1))
            for function in (is_pair_right, pair_parting, comes):
                self.assertEqual(refused(function, pairbook, self.ring(many)), told)
            self.assertEqual(refused(crowded_tint, pairbook, self.ring(many)), told)
            self.assertEqual(refused(pairs_parted, pairbook, tint_book(self.ring(many))), told)
        self.assertEqual(len(comes(counting(25, 1, (True,) * 25), self.ring(12))), 300)
        # parted by none at all, but that is not asked first
        self.assertEqual(refused(pairs_parted, counting(43, 1, (True,) * 43), tint_book(self.ring(7))), "TooMuch")
        self.assertEqual(tints_that_come(counting(48, 1, (True,) * 48)), tuple(range(48)))

    def climbing(self, goal):
        """The TINTS come by 0, 1, 3, 7 .. 255 CHANGES, then by 383, 399, 400, 401, each of two; one is for all else."""
        pairs = [(at, at) for at in range(8)] + [(8, 7), (9, 4), (10, 0), (11, 0)]
        leads = {pair: at for at, pair in enumerate(pairs, start=1)}
        every = range(14)
        table = tuple([tuple([tuple([leads.get((x, y), 13) for y in every])] * 2) for x in every])
        return tuple([at == goal for at in every]), 0, table

    def test_a_cheaper_way_that_is_found_later(self):
        # 0, 1, 2, 3 CHANGES lead to TINTS 0 to 3; two of 2 lead to TINT 4 by 5, and 3 and 0 by 4
        leads = {(0, 0): 1, (1, 0): 2, (2, 0): 3, (2, 2): 4, (3, 0): 4}
        table = tuple([tuple([tuple([leads.get((x, y), 5) for y in range(6)])] * 2) for x in range(6)])
        pairbook = ((False,) * 4 + (True, False), 0, table)
        history = pair_parting(pairbook, NONE)
        self.assertEqual(len(history[1]), 4)
        self.assertIs(plain_pair_parts(pairbook, NONE, history), True)
        self.assertEqual(len(pairs_parted(pairbook, tint_book(NONE))[1]), 4)

    def test_400_changes(self):
        for goal, many in ((8, 255), (9, 383), (10, 399), (11, 400)):
            pairbook = self.climbing(goal)
            history = pair_parting(pairbook, NONE)
            self.assertEqual(len(history[1]), many)
            self.assertIs(is_pair_parting(pairbook, NONE, history), True)
            self.assertEqual(len(pairs_parted(pairbook, tint_book(NONE))[1]), many)
        for goal in (12,):
            pairbook = self.climbing(goal)
            self.assertEqual(refused(pair_parting, pairbook, NONE), "TooMuch")
            self.assertEqual(refused(pairs_parted, pairbook, tint_book(NONE)), "TooMuch")
            self.assertIs(is_pair_right(pairbook, NONE), False)

    def test_far_more_changes(self):
        # each TINT comes of two of the one ahead: 2 ** 47 CHANGES, but it is soon told
        table = tuple([tuple([tuple([min(x + 1, 47) if x == y else 0 for y in range(48)])] * 2) for x in range(48)])
        pairbook = ((False,) * 47 + (True,), 0, table)
        self.assertEqual(refused(pair_parting, pairbook, NONE), "TooMuch")
        self.assertEqual(refused(pairs_parted, pairbook, tint_book(NONE)), "TooMuch")
        self.assertEqual(tints_that_come(pairbook), tuple(range(48)))
        self.assertEqual(refused(pair_machine, pairbook), "CanNot")
        self.assertEqual(len(folded_tints(pairbook)[0]), 48)


if __name__ == "__main__":
    unittest.main()
