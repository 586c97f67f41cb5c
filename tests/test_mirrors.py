"""[19]: mirrors, other numbers, FOLDINGS, and two BOOKS paired."""

import unittest
from itertools import permutations
from itertools import product as all_rows
from random import Random

from calls import refused
from odd_values import ODD_VALUES, variants
from placehues.books import is_book
from placehues.centres import class_of
from placehues.doings import doings, is_group
from placehues.judged import is_right
from placehues.machines import both_of, is_machine, least
from placehues.made import hue_book
from placehues.mirrors import (
    folded, folding, is_folding, mirrored, mirrored_history, mirrored_machine, paired, relettered, relettered_book,
    renamed,
)
from placehues.steady import are_books_alike
from placehues.told import told_of
from placehues.words import is_history, text_behind
from plain_books import (
    PARITY, SIDES, all_histories, dull_book, plain_answer, plain_parts, plain_stands, plain_text, some_book, some_books,
    some_history,
)
from plain_groups import FIRST, ODD, SOME, SQUARE, THREE
from plain_search import does_take, small_machines, some_machines, words_upto

# of 200 and of 201 STATES from the other side
JUST = (((4, 7, 8), (7, 7, 9), (9, 1, 9), (5, 1, 4), (3, 0, 3), (1, 3, 2), (6, 6, 2), (9, 3, 8), (3, 7, 9), (2, 1, 6)),
        (0, 1, 2, 3, 5, 7, 8, 9))
ABOVE = (((1, 4), (5, 5), (3, 7), (4, 4), (7, 3), (6, 4), (0, 9), (2, 1), (7, 9), (1, 6)), (1, 2, 3, 4, 7, 9))


class Histories(unittest.TestCase):
    def test_all_short_ones(self):
        for history in list(all_histories(2, 2, 3)) + list(all_histories(1, 3, 3)):
            own = mirrored_history(history)
            self.assertIs(is_history(own), True)
            self.assertEqual(text_behind(own), plain_text(history)[::-1])
            self.assertEqual(mirrored_history(own), history)
            self.assertEqual([letter for _, letter in own[1]], [letter for _, letter in history[1]])
        self.assertEqual(mirrored_history((7, ())), (7, ()))


class Books(unittest.TestCase):
    def test_answers(self):
        mixed = Random(1)
        for going_by in ("all", "flag", "letters", "side", "blind", "nobody"):
            for book in some_books(15, 2, going_by):
                own = mirrored(book)
                self.assertIs(is_book(own), True)
                self.assertEqual(mirrored(own), book)
                self.assertEqual(told_of(own), told_of(book))
                for _ in range(8):
                    history = some_history(mixed, max(book[1]))
                    self.assertIs(plain_answer(own, mirrored_history(history)), plain_answer(book, history))

    def test_rows(self):
        for book in some_books(20, 3):
            own = mirrored(book)
            self.assertEqual(own[:3], book[:3])
            for f, h in all_rows(range(len(book[0])), range(len(book[1]))):
                for row, old in zip(own[3][f][h], book[3][f][h]):
                    self.assertEqual(row, (old[0], old[1], old[3], old[2]))

    def test_right_ones(self):
        for machine in (ODD, (((1,), (2,), (0,)), (0, 2)), (((1, 2), (2, 0), (0, 1)), (1,))):
            for book in (hue_book(machine), dull_book(len(machine[0][0]), True)):
                self.assertIs(is_right(mirrored(book), mirrored_machine(machine)), is_right(book, machine))


class Machines(unittest.TestCase):
    def test_beside_words(self):
        machines = [ODD, SOME, FIRST, THREE, SQUARE] + list(small_machines(2, 2)) + list(small_machines(3, 1))
        machines += list(some_machines(60, 4, 2, 71)) + list(some_machines(20, 3, 3, 72))
        for machine in machines:
            own = mirrored_machine(machine)
            letters = len(machine[0][0])
            self.assertIs(is_machine(own), True)
            self.assertEqual(least(own), own)
            for word in words_upto(letters, 6 if letters < 3 else 4):
                self.assertIs(does_take(own, word), does_take(machine, word[::-1]))
            self.assertEqual(mirrored_machine(own), least(machine))
            self.assertIs(refused(doings, own), refused(doings, machine))
            if refused(doings, machine) is None:
                self.assertEqual(len(doings(own)), len(doings(machine)))
                self.assertIs(is_group(own), is_group(machine))
                if is_group(own):
                    self.assertEqual(class_of(own), class_of(machine))

    def from_the_end(self, many):
        """Takes the WORDS whose letter at this place from the beginning is 1."""
        steps = tuple([(at + 1, at + 1) for at in range(many - 1)]) + ((many, many + 1),)
        return steps + ((many, many), (many + 1, many + 1)), (many,)

    def test_too_much(self):
        for machine, states in ((JUST, 200), (self.from_the_end(7), 128)):
            self.assertEqual(len(mirrored_machine(machine)[0]), states)
        # what is returned may be passed in again
        self.assertEqual(mirrored_machine(mirrored_machine(JUST)), least(JUST))
        for machine in (ABOVE, self.from_the_end(8), self.from_the_end(10)):
            self.assertEqual(refused(mirrored_machine, machine), "TooMuch")
        many = mirrored_machine(self.from_the_end(7))
        self.assertIs(does_take(many, (1, 2, 2, 2, 2, 2, 2)), True)
        self.assertIs(does_take(many, (1, 2, 2, 2, 2, 2)), False)


class OtherNumbers(unittest.TestCase):
    def test_renamed(self):
        mixed = Random(4)
        for book in some_books(60, 5) + [SIDES, PARITY]:
            flags, hues = list(range(len(book[0]))), list(range(len(book[1])))
            mixed.shuffle(flags)
            mixed.shuffle(hues)
            own = renamed(book, tuple(flags), tuple(hues))
            self.assertIs(is_book(own), True)
            for _ in range(8):
                history = some_history(mixed, max(book[1]))
                flag, stand = plain_stands(book, history)[-1]
                self.assertEqual(plain_stands(own, history)[-1], (flags[flag], tuple([hues[hue] for hue in stand])))
                self.assertIs(plain_answer(own, history), plain_answer(book, history))
            back = renamed(own, [flags.index(f) for f in range(len(flags))], [hues.index(h) for h in range(len(hues))])
            self.assertEqual(back, book)
            for f, h, t in all_rows(range(len(flags)), range(len(hues)), range(max(book[1]) + 1)):
                flag, to, left, right = book[3][f][h][t]
                row = own[3][flags[f]][hues[h]][t]
                self.assertEqual(row[:2], (flags[flag], hues[to]))
                for old, new in ((left, row[2]), (right, row[3])):
                    self.assertEqual([new[hues[g]] for g in range(len(hues))], [hues[old[g]] for g in range(len(hues))])

    def test_renamed_refusals(self):
        for flags in ((), (0,), (0, 0), (1, 2), (0, 1, 2), (-1, 0), (1, 1, 0), (0, 10 ** 30)):
            self.assertEqual(refused(renamed, PARITY, flags, (0, 1)), "Unfit")
            self.assertEqual(refused(renamed, PARITY, flags, (0, 9)), "Unfit")
            self.assertEqual(refused(renamed, PARITY, (1, 0), flags), "Unfit")
        self.assertEqual(refused(renamed, PARITY, (1, 0), (1, 0)), None)

    def test_relettered(self):
        for machine in [THREE, FIRST, SQUARE] + list(some_machines(12, 3, 3, 73)) + list(some_machines(4, 2, 1, 74)):
            letters = len(machine[0][0])
            for names in permutations(range(1, letters + 1)):
                own = relettered(machine, names)
                self.assertIs(is_machine(own), True)
                self.assertEqual((len(own[0]), own[1]), (len(machine[0]), machine[1]))
                for word in words_upto(letters, 4):
                    self.assertIs(does_take(own, tuple([names[k - 1] for k in word])), does_take(machine, word))
        for letters in ((), (1,), (1, 1), (2, 3), (0, 1), (1, 2, 3)):
            self.assertEqual(refused(relettered, THREE, letters), "Unfit")
            self.assertEqual(refused(relettered_book, dull_book(2, True), letters), "Unfit")

    def test_relettered_book(self):
        mixed = Random(6)
        for book in some_books(30, 7):
            letters = max(book[1])
            for names in permutations(range(1, letters + 1)):
                own, new = relettered_book(book, names), (0,) + names
                self.assertIs(is_book(own), True)
                self.assertEqual(own[1], tuple([new[letter] for letter in book[1]]))
                for _ in range(3):
                    many, changes = some_history(mixed, letters)
                    put = (many, tuple([(place, new[letter]) for place, letter in changes]))
                    self.assertEqual(plain_stands(own, put), plain_stands(book, (many, changes)))
                    self.assertIs(plain_answer(own, put), plain_answer(book, (many, changes)))

    def test_right_ones(self):
        machine = (((1, 2), (2, 0), (0, 1)), (1,))
        self.assertIs(is_right(relettered_book(hue_book(machine), (2, 1)), relettered(machine, (2, 1))), True)
        self.assertIs(is_right(hue_book(machine), relettered(machine, (2, 1))), False)


def all_lots(many):
    """All ways to put so many into lots that are numbered as they first come."""
    for row in all_rows(range(many), repeat=many):
        if all([row[at] <= max((-1,) + row[:at]) + 1 for at in range(many)]):
            yield row


def plain_is_folding(book, flags, hues):
    """By what the document says, each two ROWS and each two HUES."""
    answers, letters, _, rows = book
    every_flag, every_hue = range(len(answers)), range(len(letters))
    if any([flags[f] == flags[e] and answers[f] != answers[e] for f in every_flag for e in every_flag]):
        return False
    if any([hues[g] == hues[h] and letters[g] != letters[h] for g in every_hue for h in every_hue]):
        return False
    alike = [(g, h) for g in every_hue for h in every_hue if hues[g] == hues[h]]
    for f, e in [(f, e) for f in every_flag for e in every_flag if flags[f] == flags[e]]:
        for own, other in alike:
            for row, after in zip(rows[f][own], rows[e][other]):
                if flags[row[0]] != flags[after[0]] or hues[row[1]] != hues[after[1]]:
                    return False
                for g, h in alike:
                    if hues[row[2][g]] != hues[after[2][h]] or hues[row[3][g]] != hues[after[3][h]]:
                        return False
    return True


def unfolded(mixed, book, more):
    """book with FLAGS and HUES more that do what some of its own do, and the FOLDING that brings it back."""
    answers, letters, (flag, hue), rows = book
    flags = list(range(len(answers))) + [mixed.randrange(len(answers)) for _ in range(more)]
    hues = list(range(len(letters))) + [mixed.randrange(len(letters)) for _ in range(more)]

    def one_of(told, lot):
        return mixed.choice([at for at, own in enumerate(told) if own == lot])

    def row_of(f, h, t):
        after, own, left, right = rows[flags[f]][hues[h]][t]
        maps = [tuple([one_of(hues, old[lot]) for lot in hues]) for old in (left, right)]
        return one_of(flags, after), one_of(hues, own), maps[0], maps[1]
    lines = tuple([tuple([
        tuple([row_of(f, h, t) for t in range(max(letters) + 1)]) for h in range(len(hues))]) for f in range(len(flags))])
    book = (tuple([answers[f] for f in flags]), tuple([letters[h] for h in hues]),
            (one_of(flags, flag), one_of(hues, hue)), lines)
    return book, (tuple(flags), tuple(hues))


class Foldings(unittest.TestCase):
    def books(self):
        mixed = Random(8)
        for book in some_books(30, 9, letters=(1,)) + some_books(10, 10, letters=(2,)) + [SIDES, PARITY]:
            if len(book[1]) <= 4:
                yield book
            if len(book[1]) <= 3:
                yield unfolded(mixed, book, 1)[0]

    def test_all_lots(self):
        seen = {True: 0, False: 0}
        for book in self.books():
            fit = [own for own in all_rows(all_lots(len(book[0])), all_lots(len(book[1]))) if plain_is_folding(book, *own)]
            for own in all_rows(all_lots(len(book[0])), all_lots(len(book[1]))):
                seen[own in fit] += 1
                self.assertIs(is_folding(book, own), own in fit)
                if own not in fit:
                    self.assertEqual(refused(folded, book, own), "Unfit")
            coarsest = folding(book)
            self.assertIn(coarsest, fit)
            for own in fit:
                for lots, most in zip(own, coarsest):
                    pairs = all_rows(range(len(lots)), repeat=2)
                    self.assertTrue(all([most[x] == most[y] for x, y in pairs if lots[x] == lots[y]]))
                self.one(book, own)
        self.assertGreater(min(seen.values()), 40)

    def one(self, book, lots):
        own = folded(book, lots)
        flags, hues = lots
        self.assertIs(is_book(own), True)
        self.assertEqual((len(own[0]), len(own[1])), (max(flags) + 1, max(hues) + 1))
        for history in list(all_histories(max(book[1]), 2, 2)) + [(4, ((0, 1), (3, 1), (2, 1), (0, 0), (3, 0)))]:
            flag, stand = plain_stands(book, history)[-1]
            told = (flags[flag], tuple([hues[hue] for hue in stand]))
            self.assertEqual(plain_stands(own, history)[-1], told)
            self.assertIs(plain_answer(own, history), plain_answer(book, history))

    def test_unfolded(self):
        mixed = Random(11)
        for book in some_books(40, 12) + [SIDES, PARITY, hue_book(THREE), hue_book(SQUARE)]:
            more, lots = unfolded(mixed, book, 3)
            self.assertIs(is_folding(more, lots), True)
            self.assertEqual(folded(more, lots), book)
            self.assertEqual(folded(more, folding(more)), folded(book, folding(book)))
            small = folded(book, folding(book))
            self.assertEqual(folding(small), (tuple(range(len(small[0]))), tuple(range(len(small[1])))))
            if len(more[0]) < 5 and len(more[1]) < 9:
                self.assertIs(are_books_alike(more, small), True)

    def test_flags_and_hues_hang_on_each_other(self):
        # two HUES that differ only in the FLAG to which they lead, of FLAGS that differ only in an answer
        still, mixed = (0, 1, 2), Random(1)
        for answers, lots in (((True, True), ((0, 0), (0, 0, 1))), ((True, False), ((0, 1), (0, 1, 2)))):
            rows = tuple([tuple([
                tuple([(f if h != 1 else 1, 2 if t else 0, still, still) for t in (0, 1)]) for h in still
            ]) for f in (0, 1)])
            book = (answers, (0, 0, 1), (0, 0), rows)
            self.assertEqual(folding(book), lots)
            self.assertEqual(folding(unfolded(mixed, book, 0)[0]), lots)

    def test_maps_alone(self):
        # HUES 0 and 1 are told apart only by where a right map puts them, 0 to 2 and 1 to 3, at which FLAG 1 comes
        still = (0, 1, 2, 3, 4)
        rows = tuple([
            tuple([((1 if h == 3 else 0), 4 if t else 0, still, (2, 3, 2, 3, 4)) for t in (0, 1)]) for h in still
        ])
        book = ((True, False), (0, 0, 0, 0, 1), (0, 0), (rows, rows))
        self.assertIs(is_book(book), True)
        self.assertEqual(folding(book), ((0, 1), (0, 1, 0, 2, 3)))
        self.assertEqual(folding(mirrored(book)), ((0, 1), (0, 1, 0, 2, 3)))

    def test_two_of_one_lot_put_apart(self):
        # all ROWS of a letter are one: it is the map alone that puts HUES 0 and 1 of one lot to unlike ones
        for left, right in (((0, 1, 2, 3), (0, 2, 2, 3)), ((0, 2, 2, 3), (0, 1, 2, 3))):
            line = ((0, 0, left, right), (0, 3, left, right))
            book = ((True,), (0, 0, 0, 1), (0, 0), ((line,) * 4,))
            self.assertIs(is_book(book), True)
            for hues, told in (((0, 0, 1, 2), False), ((0, 1, 1, 2), True), ((0, 1, 0, 2), True), ((0, 0, 0, 1), True)):
                self.assertIs(plain_is_folding(book, (0,), hues), told)
                self.assertIs(is_folding(book, ((0,), hues)), told)

    def test_any_value(self):
        for thing in ODD_VALUES:
            self.assertIs(is_folding(PARITY, thing), False)
            self.assertIs(is_folding(PARITY, (thing, (0, 1))), False)
            self.assertIs(is_folding(PARITY, ((0, 1), thing)), False)
        for lots in (((0, 1), (0, 2)), ((1, 0), (0, 1)), ((0, 1), (1, 0)), ((0, 1, 2), (0, 1)), ((0, 1),), ((0, 2), (0, 1))):
            self.assertIs(is_folding(PARITY, lots), False)
            self.assertEqual(refused(folded, PARITY, lots), "Unfit")
        self.assertEqual(folded(PARITY, [[0, 1], [0, 1]]), PARITY)

    def test_nearly(self):
        lax = (PARITY[0] + (False,), PARITY[1], (2, 0), PARITY[3] + PARITY[3][:1])
        lots = ((0, 1, 0), (0, 1))
        self.assertEqual(folding(lax), lots)
        fit = {repr(own) for own in all_rows(all_lots(3), all_lots(2)) if plain_is_folding(lax, *own)}
        for thing in variants(lots):
            self.assertIs(is_folding(lax, thing), repr(thing) in fit, thing)


class Paired(unittest.TestCase):
    SAYINGS = {"and": lambda a, b: a and b, "or": lambda a, b: a or b, "unlike": lambda a, b: a != b}

    def test_beside_both(self):
        mixed = Random(13)
        for _ in range(60):
            letters = mixed.choice((1, 2, 3))
            one, other = some_book(mixed, letters), some_book(mixed, letters, "letters")
            hues = [(g, h) for g, k in enumerate(one[1]) for h, m in enumerate(other[1]) if k == m]
            for word, saying in self.SAYINGS.items():
                book = paired(one, other, word)
                self.assertIs(is_book(book), True)
                self.assertEqual(len(book[0]), len(one[0]) * len(other[0]))
                self.assertEqual(book[1], tuple([one[1][g] for g, _ in hues]))
                for _ in range(4):
                    history = some_history(mixed, letters)
                    flag, stand = plain_stands(book, history)[-1]
                    first, second = plain_stands(one, history)[-1], plain_stands(other, history)[-1]
                    self.assertEqual(divmod(flag, len(other[0])), (first[0], second[0]))
                    self.assertEqual([hues[hue] for hue in stand], list(zip(first[1], second[1])))
                    told = saying(plain_answer(one, history), plain_answer(other, history))
                    self.assertIs(plain_answer(book, history), told)

    def test_all_rows(self):
        mixed = Random(14)
        one, other = some_book(mixed, 2), some_book(mixed, 2)
        book = paired(one, other, "or")
        hues = [(g, h) for g, k in enumerate(one[1]) for h, m in enumerate(other[1]) if k == m]
        flags = list(all_rows(range(len(one[0])), range(len(other[0]))))
        for (f, e), (g, h), t in all_rows(flags, hues, range(3)):
            row = book[3][flags.index((f, e))][hues.index((g, h))][t]
            first, second = one[3][f][g][t], other[3][e][h][t]
            self.assertEqual(flags[row[0]], (first[0], second[0]))
            self.assertEqual(hues[row[1]], (first[1], second[1]))
            for at in (2, 3):
                self.assertEqual([hues[own] for own in row[at]], [(first[at][x], second[at][y]) for x, y in hues])
        self.assertEqual(book[0], tuple([one[0][f] or other[0][e] for f, e in flags]))

    def test_right_ones(self):
        thirds = (((1,), (2,), (0,)), (0,))
        book = paired(hue_book(ODD), hue_book(thirds), "and")
        for history in list(all_histories(1, 3, 4)) + [(9, tuple([(at, 1) for at in range(9)]))]:
            self.assertIs(plain_parts(book, both_of(ODD, thirds), history), False)
        self.assertIs(is_right(paired(PARITY, PARITY, "unlike"), ODD), False)
        self.assertIs(is_right(paired(PARITY, PARITY, "or"), ODD), True)

    def test_letters(self):
        for word in self.SAYINGS:
            self.assertEqual(refused(paired, PARITY, dull_book(2, True), word), "Unfit")
            self.assertEqual(refused(paired, dull_book(3, True), SIDES, word), "Unfit")



if __name__ == "__main__":
    unittest.main()
