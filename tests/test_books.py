"""[3], [8]: BOOKS and their STANDS."""

import unittest
from random import Random

from calls import refused
from odd_values import ODD_VALUES, variants
from placehues.books import (
    answer, begun, flags_along, history_to, hues_along, hues_for, is_book, is_stand, letters_of, stand_behind,
    stands_come, text_of, turned,
)
from plain_books import (
    PARITY, SIDES, all_histories, dull_book, plain_answer, plain_stands, plain_text, plain_turned, some_book,
    some_books, some_history,
)

MOST = some_book(Random(5), 3, "all", 24, 6)
# the FLAG counts all CHANGES, so ever more STANDS come
TWELVE = tuple(range(12))
COUNTING = ((False,) * 12, (0, 1), (0, 0), tuple([
    tuple([tuple([((f + 1) % 12, t, (0, 1), (0, 1)) for t in (0, 1)]) for h in (0, 1)]) for f in TWELVE]))


def is_below(thing, many):
    return type(thing) is int and 0 <= thing < many


def is_plain_map(thing, hues):
    if type(thing) is not tuple or len(thing) != len(hues):
        return False
    return all(is_below(own, len(hues)) and hues[own] == letter for own, letter in zip(thing, hues))


def is_plain_book(thing):
    """As the document has it, one thing after the other."""
    if type(thing) is not tuple or len(thing) != 4 or not all(type(own) is tuple for own in thing):
        return False
    answers, hues, begin, rows = thing
    if not answers or not all(type(own) is bool for own in answers):
        return False
    if not hues or not all(type(own) is int for own in hues):
        return False
    if max(hues) < 1 or sorted(set(hues)) != list(range(len(set(hues)))):
        return False
    if len(begin) != 2 or not is_below(begin[0], len(answers)) or not is_below(begin[1], len(hues)):
        return False
    if hues[begin[1]] != 0 or len(rows) != len(answers):
        return False
    for lines in rows:
        if type(lines) is not tuple or len(lines) != len(hues):
            return False
        for line in lines:
            if type(line) is not tuple or len(line) != max(hues) + 1:
                return False
            for new, row in enumerate(line):
                if type(row) is not tuple or len(row) != 4:
                    return False
                flag, own, left, right = row
                if not is_below(flag, len(answers)) or not is_below(own, len(hues)) or hues[own] != new:
                    return False
                if not is_plain_map(left, hues) or not is_plain_map(right, hues):
                    return False
    return True


class BesidePlainBooks(unittest.TestCase):
    def test_histories(self):
        mixed = Random(1)
        for book in some_books(150, 2) + [PARITY, SIDES]:
            letters = max(book[1])
            for _ in range(6):
                history = some_history(mixed, letters)
                stands = plain_stands(book, history)
                self.assertEqual(stand_behind(book, history), stands[-1])
                self.assertIs(answer(book, history), book[0][stands[-1][0]])
                self.assertEqual(flags_along(book, history), tuple([flag for flag, _ in stands]))
                for place in range(history[0]):
                    expected = tuple([hues[place] for _, hues in stands])
                    self.assertEqual(hues_along(book, history, place), expected)
                self.assertEqual(text_of(book, stands[-1]), plain_text(history))

    def test_any_stand(self):
        mixed = Random(3)
        for book in some_books(150, 4):
            many = mixed.randrange(1, 7)
            stand = (mixed.randrange(len(book[0])), tuple([mixed.randrange(len(book[1])) for _ in range(many)]))
            self.assertIs(is_stand(book, stand), True)
            self.assertEqual(text_of(book, stand), tuple([book[1][hue] for hue in stand[1]]))
            for place in range(many):
                for letter in range(max(book[1]) + 1):
                    after = turned(book, stand, (place, letter))
                    self.assertEqual(after, plain_turned(book, stand, (place, letter)))

    def test_stands_that_come(self):
        for book in some_books(60, 6) + [PARITY, SIDES]:
            for many in (1, 2):
                found, new = set(), {plain_stands(book, (many, ()))[0]}
                changes = [(place, letter) for place in range(many) for letter in range(max(book[1]) + 1)]
                while new:
                    found |= new
                    new = {plain_turned(book, stand, change) for stand in new for change in changes} - found
                self.assertEqual(stands_come(book, many), sorted(found))

    def test_history_to(self):
        for book in some_books(25, 7, letters=(1, 2)) + [SIDES]:
            for many in (1, 2):
                told = {}
                for history in all_histories(max(book[1]), many, 3):
                    told.setdefault(plain_stands(book, history)[-1], history)
                for stand, history in told.items():
                    self.assertEqual(history_to(book, stand), history)

    def test_history_to_all_that_come(self):
        for book in some_books(12, 8, letters=(1, 2)):
            come = stands_come(book, 2)
            for stand in come:
                self.assertEqual(plain_stands(book, history_to(book, stand))[-1], stand)
            for flag in range(len(book[0])):
                for one in range(len(book[1])):
                    for other in range(len(book[1])):
                        stand = (flag, (one, other))
                        told = refused(history_to, book, stand)
                        self.assertEqual(told, None if stand in come else "CanNot")


class Books(unittest.TestCase):
    def test_what_is_one(self):
        for book in some_books(40, 9) + [PARITY, SIDES, MOST, COUNTING, dull_book(3, True)]:
            self.assertIs(is_book(book), True)
            self.assertEqual(letters_of(book), len(book[3][0][0]) - 1)
            for letter in range(letters_of(book) + 1):
                expected = [hue for hue, own in enumerate(book[1]) if own == letter]
                self.assertEqual(hues_for(book, letter), tuple(expected))

    def test_nearly(self):
        for book in (PARITY, dull_book(2, False)):
            for thing in variants(book):
                self.assertIs(is_book(thing), is_plain_book(thing), thing)

    def test_any_value(self):
        for thing in ODD_VALUES:
            self.assertIs(is_book(thing), False)
            for at in range(4):
                other = PARITY[:at] + (thing,) + PARITY[at + 1:]
                self.assertIs(is_book(other), is_plain_book(other))

    def test_what_is_none(self):
        answers, hues, begin, rows = SIDES
        line = rows[0][0]
        for thing in (
            (answers, hues, (0, 2), rows), (answers, hues, (2, 0), rows), (answers, hues, (-1, 0), rows),
            (answers, hues, (0, 0, 0), rows), (answers, hues, (False, 0), rows), (answers, hues, (0, False), rows),
            ((), hues, begin, ()), ((True,), hues, begin, rows), ((True, False, True), hues, begin, rows),
            ((1, 0), hues, begin, rows), (answers, (0, 0, 1), begin, rows), (answers, (0, 0, 2, 2), begin, rows),
            (answers, (0, 0, 0, 0), begin, rows), (answers, (0, 0, 1, 10 ** 400), begin, rows),
            (answers, (1, 1, 1, 1), begin, rows), (answers, (0, 0, 1, True), begin, rows), (answers, (), begin, rows),
            (answers, (0, 0, 1, -1), begin, rows), (answers, hues, begin, rows[:1]),
            (answers, hues, begin, (rows[0], rows[1][:3])), (answers, hues, begin, (rows[0], rows[1] + (line,))),
            (answers, hues, begin, (rows[0], rows[1][:3] + (line + line[:1],))),
            (answers, hues, begin, (rows[0], rows[1][:3] + (line[::-1],))),
            (answers, hues, begin, (rows[0], list(rows[1]))),
            ((True,), (0,), (0, 0), ((((0, 0, (0,), (0,)),),),)),
        ):
            self.assertIs(is_book(thing), False, thing)
        self.assertIs(is_book(SIDES), True)

    def test_rows_that_are_none(self):
        still = (0, 1, 2, 3)
        for row in (
            (2, 2, still, still), (0, 0, still, still), (0, 4, still, still), (0, 2, still, (0, 1, 2)),
            (0, 2, (0, 1, 2, 3, 3), still), (0, 2, (2, 1, 2, 3), still), (0, 2, still, (0, 1, 1, 3)),
            (0, 2, still, (0, 1, 2, 4)), (0, 2, still, (0, -1, 2, 3)), (0, 2, still, (0, True, 2, 3)),
            (0, 2, still, (0, 1, 2, -1)), (0, 2, (0, 1, -1, 3), still),
            (0, 2, still), (0, 2, still, still, still), [0, 2, still, still], (0, 2, list(still), still),
            (0, 2, still, None), (-1, 2, still, still), (0, -1, still, still), (True, 2, still, still), None,
        ):
            line = (SIDES[3][0][0][0], row)
            thing = SIDES[:3] + (((line,) + SIDES[3][0][1:], SIDES[3][1]),)
            self.assertIs(is_book(thing), False, row)
        line = (SIDES[3][0][0][0], (0, 3, (1, 0, 2, 2), (0, 0, 3, 3)))
        self.assertIs(is_book(SIDES[:3] + (((line,) + SIDES[3][0][1:], SIDES[3][1]),)), True)

    def test_hues_for_no_letter(self):
        self.assertEqual(hues_for(SIDES, 0), (0, 1))
        self.assertEqual(refused(hues_for, SIDES, 2), "Unfit")
        self.assertEqual(refused(hues_for, MOST, 4), "Unfit")
        self.assertEqual(refused(hues_for, MOST, 3), None)


class Stands(unittest.TestCase):
    def test_begun(self):
        self.assertEqual(begun(MOST, 5), (MOST[2][0], (MOST[2][1],) * 5))
        self.assertEqual(begun(PARITY, 1), (0, (0,)))

    def test_any_value(self):
        for thing in ODD_VALUES:
            self.assertIs(is_stand(PARITY, thing), repr(thing) == "(1, (1,))")
            self.assertIs(is_stand(PARITY, (0, thing)), type(thing) is tuple and thing == (0,) * 5000)

    def test_what_is_one(self):
        for thing in ((0, (0,)), (1, (1, 0)), (1, (1,) * 10000)):
            self.assertIs(is_stand(PARITY, thing), True)
        for thing in (
            (2, (0,)), (-1, (0,)), (0, (2,)), (0, (-1,)), (0, ()), (0, [0]), [0, (0,)], (True, (0,)), (0, (True,)),
            (0, 0), (0, (0,), ()), ((0,), 0), (0,), (0, ((0,),)), (10 ** 400, (0,)), (0, (10 ** 400,)), (None, (0,)),
        ):
            self.assertIs(is_stand(PARITY, thing), False, thing)
        # any pair is one, come to or not
        self.assertIs(is_stand(SIDES, (0, (3,))), True)
        self.assertIs(is_stand(SIDES, (1, (3, 1, 0))), True)

    def test_nearly(self):
        for thing in variants((1, (0, 1))):
            expected = thing == (0, (0, 1)) and type(thing[0]) is int
            self.assertIs(is_stand(PARITY, thing), expected)

    def test_turned_refuses_the_place_first(self):
        self.assertEqual(refused(turned, PARITY, (0, (0, 0)), (2, 1)), "NoPlace(2)")
        self.assertEqual(refused(turned, PARITY, (0, (0, 0)), (5, 7)), "NoPlace(5)")
        self.assertEqual(refused(turned, PARITY, (0, (0, 0)), (1, 2)), "Unfit")
        self.assertEqual(refused(turned, PARITY, (0, (0, 0)), (1, 1)), None)

    def test_letters_that_a_book_has_not(self):
        strange = (3, ((0, 1), (2, 2), (2, 0)))
        for function in (stand_behind, answer, flags_along):
            self.assertEqual(refused(function, PARITY, strange), "Unfit")
        for place in (0, 2, 3, -1):
            self.assertEqual(refused(hues_along, PARITY, strange, place), "Unfit")

    def test_places_that_are_not_there(self):
        for place in (3, 4, 10 ** 6, -1):
            self.assertEqual(refused(hues_along, PARITY, (3, ((0, 1),)), place), "NoPlace(%d)" % place)
        self.assertEqual(hues_along(PARITY, (3, ((0, 1),)), 2), (0, 0))

    def test_no_changes(self):
        self.assertEqual(stand_behind(MOST, (2, ())), begun(MOST, 2))
        self.assertEqual(flags_along(MOST, (2, ())), (MOST[2][0],))
        self.assertEqual(hues_along(MOST, (2, ()), 1), (MOST[2][1],))

    def test_long_histories(self):
        mixed = Random(11)
        history = (60, tuple([(mixed.randrange(60), mixed.randrange(4)) for _ in range(400)]))
        self.assertEqual(stand_behind(MOST, history), plain_stands(MOST, history)[-1])
        self.assertIs(answer(MOST, history), plain_answer(MOST, history))
        self.assertEqual(text_of(MOST, stand_behind(MOST, history)), plain_text(history))


class StandsThatCome(unittest.TestCase):
    def test_two_thousand(self):
        # as many as TEXTS
        self.assertEqual(len(stands_come(PARITY, 10)), 1024)
        self.assertEqual(refused(stands_come, PARITY, 11), "TooMuch")
        self.assertEqual(refused(stands_come, PARITY, 60), "TooMuch")
        # all FLAGS with each
        self.assertEqual(len(stands_come(COUNTING, 6)), 64 * 12)
        self.assertEqual(len(stands_come(COUNTING, 7)), 128 * 12)
        self.assertEqual(refused(stands_come, COUNTING, 8), "TooMuch")
        # 2000 are not more than 2000
        self.assertEqual(len(stands_come(counting(1000), 1)), 2000)
        self.assertEqual(refused(stands_come, counting(1001), 1), "TooMuch")

    def test_too_much_only_if_it_is_not_among_them(self):
        book = dull_book(1, True)
        # 1 + 60 + 1770 STANDS come by at most two CHANGES, 36050 by three
        self.assertEqual(history_to(book, (0, (0,) * 58 + (1, 1))), (60, ((58, 1), (59, 1))))
        self.assertEqual(history_to(book, (0, (1,) * 3 + (0,) * 57)), (60, ((0, 1), (1, 1), (2, 1))))
        self.assertEqual(refused(history_to, book, (0, (1,) * 4 + (0,) * 56)), "TooMuch")
        self.assertEqual(refused(history_to, book, (0, (1,) * 60)), "TooMuch")
        self.assertEqual(history_to(book, (0, (1,) * 10)), (10, tuple([(place, 1) for place in range(10)])))
        # 2036 of eleven places come by at most nine CHANGES
        self.assertEqual(refused(history_to, book, (0, (1,) * 11)), "TooMuch")
        self.assertEqual(len(history_to(book, (0, (1,) * 9 + (0,) * 2))[1]), 9)

    def test_two_thousand_on_the_way(self):
        # one after the other they come
        book = counting(1000)
        self.assertEqual(len(history_to(book, (999, (0,)))[1]), 999)
        book = counting(1100)
        self.assertEqual(len(history_to(book, (999, (0,)))[1]), 999)
        # by 1000 CHANGES there are 1 + 2 * 1000
        self.assertEqual(len(history_to(book, (1000, (0,)))[1]), 1000)
        self.assertEqual(refused(history_to, book, (1001, (0,))), "TooMuch")

    def test_none(self):
        self.assertEqual(refused(history_to, SIDES, (1, (3,))), "CanNot")
        self.assertEqual(refused(history_to, PARITY, (0, (1, 0, 0))), "CanNot")
        self.assertEqual(refused(history_to, PARITY, (1, (0,) * 9)), "CanNot")
        # what can not be is not found out where too many come
        self.assertEqual(refused(history_to, PARITY, (1, (0,) * 12)), "TooMuch")

    def test_begun(self):
        for many in (1, 2, 60):
            self.assertEqual(history_to(MOST, begun(MOST, many)), (many, ()))

    def test_the_least(self):
        # a letter put anew turns the FLAG
        self.assertEqual(history_to(COUNTING, (3, (0, 1))), (2, ((0, 0), (0, 0), (1, 1))))
        self.assertEqual(history_to(COUNTING, (0, (0, 1)))[1][:3], ((0, 0),) * 3)


def counting(many):
    """A BOOK with so many FLAGS that counts all CHANGES."""
    still = (0, 1)
    return ((True,) * many, still, (0, 0), tuple([
        (tuple([((flag + 1) % many, new, still, still) for new in still]),) * 2 for flag in range(many)]))


if __name__ == "__main__":
    unittest.main()
