"""[20]: CLAIMS, PAPERS for and against them, and what comes of them."""

import unittest
from itertools import combinations
from itertools import product as all_rows
from random import Random

from calls import refused
from odd_values import ODD_VALUES, variants
from placehues.books import is_book
from placehues.centres import class_of, is_twisted, lots, opposite
from placehues.doings import doings, is_group, is_stuck
from placehues.fewest import fewest_hues, is_parting
from placehues.judge import (
    comes_of, first_false, is_claim, is_paper_against, is_paper_for, is_so, paper, verdicts,
)
from placehues.judged import is_right, is_rows, least_rows
from placehues.made import hue_book
from placehues.machines import is_machine
from placehues.mirrors import renamed
from placehues.steady import are_books_alike, is_books_parting, is_jar, is_steady
from plain_books import LATEST, PARITY, SIDES, bent, dull_book, following, some_book, some_going_round
from plain_groups import (
    ALL, BIG, EVEN, FIRST, FIVE, FULL, GROUPS, NO_GROUPS, NONE, OCTAGON, ODD, QUATERNIONS, SOME, SQUARE, THREE,
)

EVENS = (((1,), (0,)), (0,))
OTHER = renamed(PARITY, (1, 0), (0, 1))
DULL = dull_book(1, False)
MIXING = (((1, 1, 1), (2, 0, 0), (3, 2, 2), (0, 3, 0)), (0,))


def claims():
    """CLAIMS of each kind, and whether they are so."""
    for machine in GROUPS + NO_GROUPS + [EVEN, FULL]:
        yield ("group", machine), is_group(machine)
    for machine in GROUPS + [EVEN]:
        own = class_of(machine)
        for number in range(7):
            yield ("class", machine, number), own is not None and own <= number
        many = fewest_hues(machine)
        for number in (0, 1, 2, many - 1, many, many + 1, many + 7):
            if number >= 0:
                yield ("hues", machine, number), number <= many
    for book, machine in all_rows((PARITY, SIDES, OTHER, LATEST, DULL), (ODD, EVENS, NONE, (((0,),), (0,)))):
        yield ("right", book, machine), is_right(book, machine)
    for book in (PARITY, SIDES, LATEST, DULL, dull_book(3, True), following(SOME), following(FIRST), following(THREE)):
        yield ("steady", book), is_steady(book)
    for book, other in all_rows((PARITY, SIDES, OTHER, LATEST, DULL), repeat=2):
        yield ("alike", book, other), are_books_alike(book, other)
    mixed = Random(1)
    for _ in range(30):
        book = bent(mixed, PARITY, 1)
        yield ("right", book, ODD), is_right(book, ODD)
        yield ("steady", book), is_steady(book)
        yield ("alike", book, PARITY), are_books_alike(book, PARITY)


ALL_CLAIMS = list(claims())


class Kinds(unittest.TestCase):
    def test_claims(self):
        for claim, _ in ALL_CLAIMS:
            self.assertIs(is_claim(claim), True)
            self.assertIs(is_claim(list(claim)), False)
        for machine in NO_GROUPS + [BIG]:
            letters = len(machine[0][0])
            self.assertIs(is_claim(("group", machine)), True)
            for thing in (("class", machine, 1), ("hues", machine, 1), ("right", dull_book(letters, True), machine)):
                self.assertIs(is_claim(thing), False)
        # more than 48 DOINGS are no matter
        for thing in (("class", FIVE, 1), ("hues", FIVE, 1), ("right", dull_book(2, True), FIVE), ("class", SQUARE, 10 ** 30)):
            self.assertIs(is_claim(thing), True)

    def test_letters(self):
        self.assertIs(is_claim(("right", PARITY, THREE)), False)
        self.assertIs(is_claim(("right", dull_book(2, True), ODD)), False)
        self.assertIs(is_claim(("alike", PARITY, dull_book(2, True))), False)
        self.assertIs(is_claim(("alike", dull_book(2, True), dull_book(2, False))), True)

    def test_no_claims(self):
        for thing in ODD_VALUES:
            self.assertIs(is_claim(thing), False)
            for word in ("group", "steady", "class", "hues", "right", "alike", thing):
                self.assertIs(is_claim((word, thing)), False)
                self.assertIs(is_claim((word, thing, 1)), False)
                self.assertIs(is_claim((word, PARITY, thing)), False)
                fit = word in ("class", "hues") and type(thing) is int and thing >= 0
                self.assertIs(is_claim((word, ODD, thing)), fit)
        for thing in (
            ("group", ODD, 1), ("group",), ("class", ODD), ("class", ODD, -1), ("class", ODD, True), ("hues", ODD, None),
            ("steady", PARITY, PARITY), ("steady", ODD), ("group", PARITY), ("right", ODD, PARITY), ("right", PARITY),
            ("alike", PARITY), ("alike", PARITY, ODD), ("Group", ODD), ("", ODD), ("classes", ODD, 1), ["group", ODD],
        ):
            self.assertIs(is_claim(thing), False)

    def test_nearly(self):
        def is_group_of(thing):
            return is_machine(thing) and is_group(thing)

        def fit(thing):
            if type(thing) is not tuple or len(thing) not in (2, 3) or type(thing[0]) is not str:
                return False
            if len(thing) == 2:
                return thing[0] == "group" and is_machine(thing[1]) or thing[0] == "steady" and is_book(thing[1])
            word, one, other = thing
            if word in ("class", "hues"):
                return is_group_of(one) and type(other) is int and other >= 0
            if not is_book(one):
                return False
            if word == "right":
                return is_group_of(other) and max(one[1]) == len(other[0][0])
            return word == "alike" and is_book(other) and max(one[1]) == max(other[1])

        seen = {}
        for claim in (("group", SOME), ("class", ODD, 1), ("hues", EVENS, 2), ("steady", PARITY), ("right", PARITY, ODD),
                      ("alike", PARITY, LATEST)):
            self.assertIs(fit(claim), True)
            for thing in variants(claim):
                seen[fit(thing)] = seen.get(fit(thing), 0) + 1
                self.assertIs(is_claim(thing), fit(thing), thing)
        self.assertGreater(min(seen.values()), 3)

    def test_unfit_ahead_of_all(self):
        for wrong in (None, (), ("class", SOME, 1), ("right", PARITY, THREE), ("right", dull_book(3, True), BIG), "group"):
            for function in (is_so, paper):
                self.assertEqual(refused(function, wrong), "Unfit")
            for function in (is_paper_for, is_paper_against):
                self.assertEqual(refused(function, wrong, None), "Unfit")
            for rows in ((wrong,), (("group", BIG), wrong), (("group", SOME), wrong), (wrong, ("group", BIG))):
                self.assertEqual(refused(verdicts, rows, (None,) * len(rows)), "Unfit")
                self.assertEqual(refused(first_false, rows), "Unfit")
                self.assertEqual(refused(comes_of, ("group", ODD), rows), "Unfit")
            self.assertEqual(refused(comes_of, wrong, (("group", ODD),)), "Unfit")


class Judging(unittest.TestCase):
    def test_is_so_and_papers(self):
        seen = {}
        for claim, so in ALL_CLAIMS:
            with self.subTest(claim):
                seen[(claim[0], so)] = seen.get((claim[0], so), 0) + 1
                self.assertIs(is_so(claim), so)
                own = paper(claim)
                self.assertIs(is_paper_for(claim, own), so)
                self.assertIs(is_paper_against(claim, own), not so)
                self.assertEqual(verdicts((claim,), (own,)), ["for" if so else "against"])
                self.assertIs(type(own), tuple)
                self.assertIs(is_paper_for(claim, list(own)), False)
                self.assertIs(is_paper_against(claim, list(own)), False)
                self.assertEqual(first_false((claim,)), None if so else 0)
        self.assertEqual(len(seen), 12)

    def test_any_value(self):
        for claim, so in ALL_CLAIMS[::5]:
            for thing in ODD_VALUES:
                told = verdicts((claim,), (thing,))
                self.assertIn(told, ([["for"], ["none"]] if so else [["against"], ["none"]]))
                self.assertIs(is_paper_for(claim, thing), told == ["for"])
                self.assertIs(is_paper_against(claim, thing), told == ["against"])

    def test_nearly(self):
        for claim in [own for own, _ in ALL_CLAIMS[::9]] + [("hues", SQUARE, 4), ("hues", SQUARE, 5)]:
            for thing in variants(paper(claim))[:600]:
                expected = self.by_section(claim, thing)
                self.assertEqual(verdicts((claim,), (thing,)), [expected], (claim, thing))

    def by_section(self, claim, thing):
        """The verdict by the functions of the sections, and for "group" and "hues" by hand."""
        word, one = claim[:2]
        so = is_so(claim)
        if word == "group":
            own = repr(tuple([opposite(one, x) for x in doings(one)])) if so else None
            return "for" if repr(thing) == own else "against" if is_stuck(one, thing) else "none"
        if word == "hues":
            return self.of_hues(one, claim[2], thing)
        if word == "right" and is_rows(one, claim[2], thing) or word in ("class", "steady", "alike") and so and thing == ():
            return "for" if type(thing) is tuple else "none"
        against = {
            "class": lambda: is_twisted(one, claim[2] + 1, thing), "right": lambda: is_parting(one, claim[2], thing),
            "steady": lambda: is_jar(one, thing), "alike": lambda: is_books_parting(one, claim[2], thing),
        }
        return "against" if against[word]() else "none"

    def of_hues(self, machine, number, thing):
        every, parts = [repr(own) for own in doings(machine)], lots(machine)

        def lot(one):
            return [at for at, own in enumerate(parts) if one in own][0]
        if type(thing) is not tuple:
            return "none"
        if all([repr(own) in every for own in thing]) and len(thing) == number == len({lot(own) for own in thing}):
            return "for"
        if len(thing) < number and all([type(own) is tuple and all([repr(x) in every for x in own]) for own in thing]):
            sets = all([list(own) == sorted(set(own)) and len({lot(x) for x in own}) < 2 for own in thing])
            if sets and {x for own in thing for x in own} == set(doings(machine)):
                return "against"
        return "none"


class Papers(unittest.TestCase):
    def test_group(self):
        own = tuple([opposite(SQUARE, one) for one in doings(SQUARE)])
        self.assertIs(is_paper_for(("group", SQUARE), own), True)
        self.assertIs(is_paper_for(("group", SQUARE), own[::-1]), False)
        self.assertIs(is_paper_for(("group", SQUARE), doings(SQUARE)), False)
        self.assertIs(is_paper_for(("group", NONE), ((0,),)), True)
        self.assertIs(is_paper_for(("group", NONE), ((False,),)), False)
        self.assertIs(is_paper_against(("group", SQUARE), ((1,), (), ())), False)
        # letter 2 halts, too
        self.assertIs(is_paper_against(("group", FIRST), ((2,), (), (1,))), True)
        self.assertIs(is_paper_for(("group", SOME), doings(SOME)), False)

    def test_class(self):
        for machine, own in ((NONE, 0), (ODD, 1), (SQUARE, 2), (QUATERNIONS, 2), (OCTAGON, 3), (THREE, None)):
            for number in range(5):
                told = is_paper_for(("class", machine, number), ())
                self.assertIs(told, own is not None and own <= number)
                self.assertIs(is_paper_against(("class", machine, number), ()), False)
        self.assertIs(is_paper_against(("class", SQUARE, 1), ((1, 1, 1), (2,))), True)
        self.assertIs(is_paper_against(("class", SQUARE, 1), ((1,), (2,), (1,))), False)
        self.assertIs(is_paper_against(("class", ODD, 0), ((1,),)), True)
        self.assertIs(is_paper_against(("class", ODD, 0), ((1, 1),)), False)
        self.assertIs(is_paper_against(("class", THREE, 6), ((1,), (2,), (1,), (2,), (1,), (2,), (1,))), True)

    def test_hues(self):
        every, parts = doings(THREE), lots(THREE)
        for number in range(8):
            for size in range(7):
                for own in list(combinations(every, size))[::3]:
                    self.assertIs(is_paper_for(("hues", THREE, number), own), size == number)
        self.assertIs(is_paper_for(("hues", SQUARE, 2), (every[0],) * 2), False)
        self.assertIs(is_paper_against(("hues", THREE, 7), parts), True)
        self.assertIs(is_paper_against(("hues", THREE, 6), parts), False)
        self.assertIs(is_paper_against(("hues", THREE, 8), parts + ((),)), True)
        self.assertIs(is_paper_against(("hues", THREE, 7), parts + ((),)), False)
        self.assertIs(is_paper_against(("hues", THREE, 9), parts + parts[:2]), True)
        # some DOING in none, two of unlike LOTS in one, no set
        self.assertIs(is_paper_against(("hues", THREE, 7), parts[1:]), False)
        self.assertIs(is_paper_against(("hues", THREE, 7), (every,)), False)
        self.assertIs(is_paper_against(("hues", ALL, 2), (((0,), (0,)),)), False)
        one, other = lots(SQUARE)[0]
        for own in ((other, one), (one, one, other), [one, other]):
            self.assertIs(is_paper_against(("hues", SQUARE, 9), (own,) + lots(SQUARE)[1:]), False)
        self.assertIs(is_paper_against(("hues", SQUARE, 9), ((one,), (other,)) + lots(SQUARE)[1:]), True)
        self.assertIs(is_paper_for(("hues", SQUARE, 0), ()), True)

    def test_books(self):
        rows = least_rows(PARITY, ODD)
        self.assertIs(is_paper_for(("right", PARITY, ODD), rows), True)
        self.assertIs(is_paper_for(("right", PARITY, ODD), rows[1:]), False)
        self.assertIs(is_paper_for(("right", PARITY, EVENS), rows), False)
        self.assertIs(is_paper_against(("right", PARITY, EVENS), (1, ())), True)
        self.assertIs(is_paper_against(("right", PARITY, ODD), (1, ())), False)
        self.assertIs(is_paper_for(("steady", SIDES), ()), True)
        self.assertIs(is_paper_for(("steady", LATEST), ()), False)
        taken = (2, ((0, 1), (1, 1), (1, 0)))
        self.assertIs(is_paper_against(("steady", LATEST), (taken, (1, ((0, 1),)))), True)
        self.assertIs(is_paper_against(("steady", LATEST), (taken, taken)), False)
        self.assertIs(is_paper_for(("alike", PARITY, SIDES), ()), True)
        self.assertIs(is_paper_for(("alike", PARITY, LATEST), ()), False)
        self.assertIs(is_paper_against(("alike", PARITY, LATEST), (2, ((0, 1), (1, 1)))), True)
        self.assertIs(is_paper_against(("alike", PARITY, SIDES), (2, ((0, 1), (1, 1)))), False)
        self.assertIs(is_paper_for(("alike", PARITY, SIDES), []), False)


class TooMuch(unittest.TestCase):
    ASKED = [
        ("group", BIG), ("group", FIVE), ("class", FIVE, 1), ("hues", FIVE, 0), ("right", dull_book(2, True), FIVE),
        ("right", dull_book(2, True), SQUARE), ("right", hue_book(THREE), THREE), ("steady", following(MIXING)),
        ("steady", following(SQUARE)),
    ]

    def test_whatever_thing_is(self):
        for claim in self.ASKED:
            self.assertIs(is_claim(claim), True)
            self.assertEqual((refused(is_so, claim), refused(paper, claim)), ("TooMuch", "TooMuch"))
            for thing in (None, (), ((1,), (), ())):
                self.assertEqual(refused(is_paper_for, claim, thing), "TooMuch")
                self.assertEqual(refused(is_paper_against, claim, thing), "TooMuch")
                self.assertEqual(refused(verdicts, (claim,), (thing,)), "TooMuch")
            rows = (("group", ODD), ("group", SOME), claim)
            self.assertEqual(refused(verdicts, rows, (None,) * 3), "TooMuch")
            self.assertEqual(refused(verdicts, rows, (None,) * 2), "Unfit")
            self.assertEqual(refused(verdicts, rows, (None,) * 4), "Unfit")

    def test_what_is_not_asked(self):
        for claim in self.ASKED:
            # none behind the first that is not so
            self.assertEqual(first_false((("group", ODD), ("group", SOME), claim)), 1)
            self.assertEqual(refused(first_false, (("group", ODD), claim, ("group", SOME))), "TooMuch")
            self.assertIs(comes_of(claim, (claim,)), True)
            self.assertIs(comes_of(claim, (("group", ODD),)), False)
            self.assertIs(comes_of(("group", ODD), (claim,)), False)
        self.assertIs(comes_of(("group", FIVE), (("class", FIVE, 1),)), True)

    def test_of_paper_alone(self):
        # steady is soon told, a JAR of it would be too long
        claim = ("steady", some_going_round(13, 31))
        self.assertIs(is_so(claim), False)
        self.assertEqual(refused(paper, claim), "TooMuch")
        self.assertEqual(verdicts((claim,), ((),)), ["none"])
        self.assertEqual(first_false((claim,)), 0)

    def test_alike_is_never(self):
        self.assertIs(is_so(("alike", following(MIXING), following(MIXING))), True)
        self.assertIs(is_so(("alike", following(SQUARE), dull_book(2, True))), False)


class Verdicts(unittest.TestCase):
    def test_many(self):
        rows = ALL_CLAIMS[::4]
        papers = [paper(claim) for claim, _ in rows]
        told = ["for" if so else "against" for _, so in rows]
        self.assertEqual(verdicts(tuple([claim for claim, _ in rows]), tuple(papers)), told)
        self.assertEqual(verdicts([claim for claim, _ in rows], papers), told)
        self.assertEqual(verdicts((), ()), [])
        self.assertEqual(verdicts([], []), [])

    def test_a_list_within_is_a_list(self):
        claim = ("steady", PARITY)
        self.assertEqual(verdicts((claim, claim), [(), []]), ["for", "none"])
        self.assertEqual(verdicts((("class", ODD, 0),), ([[1]],)), ["none"])
        self.assertEqual(verdicts((("class", ODD, 0),), [((1,),)]), ["against"])
        # a CLAIM within may be a list
        self.assertEqual(verdicts([["class", [[[1], [0]], [1]], 0]], [((1,),)]), ["against"])

    def test_as_many(self):
        for claims_told, things in (((), (None,)), ((("group", ODD),), ()), ((("group", ODD),), (None, None))):
            self.assertEqual(refused(verdicts, claims_told, things), "Unfit")

    def test_first_false(self):
        self.assertEqual(first_false(()), None)
        self.assertEqual(first_false((("group", ODD), ("class", SQUARE, 2))), None)
        self.assertEqual(first_false((("group", ODD), ("class", SQUARE, 1), ("group", SOME))), 1)
        self.assertEqual(first_false([["group", ODD], ["group", SOME]]), 1)


class ComesOf(unittest.TestCase):
    BOOKS = [PARITY, OTHER, SIDES, LATEST]
    MACHINES = [ODD, (((1,), (2,), (3,), (0,)), (1, 3)), EVENS]

    def universe(self):
        rows = [("group", own) for own in self.MACHINES]
        rows += [(word, own, number) for word in ("class", "hues") for own in self.MACHINES for number in range(3)]
        rows += [("right", book, own) for book in self.BOOKS for own in self.MACHINES]
        rows += [("steady", book) for book in self.BOOKS]
        rows += [("alike", book, other) for book in self.BOOKS for other in self.BOOKS]
        return rows

    def all_that_comes(self, told):
        """The rules, one by one, again and again."""
        found = set(told)
        while True:
            more = set(found)
            for one in found:
                if one[0] in ("class", "hues"):
                    more.add(("group", one[1]))
                    more |= {(one[0], one[1], n) for n in range(3) if (n >= one[2] if one[0] == "class" else n <= one[2])}
                if one[0] == "right":
                    more |= {("group", one[2]), ("steady", one[1])}
                if one[0] == "alike":
                    more.add(("alike", one[2], one[1]))
                for other in found:
                    if one[0] == other[0] == "alike" and one[2] == other[1]:
                        more.add(("alike", one[1], other[2]))
                    if one[0] == other[0] == "right" and one[2] == other[2]:
                        more.add(("alike", one[1], other[1]))
                    if one[0] == "right" and other[0] == "alike" and one[1] == other[1]:
                        more.add(("right", other[2], one[2]))
                    if one[0] == "steady" and other[0] == "alike" and one[1] == other[1]:
                        more.add(("steady", other[2]))
            if more == found:
                return found
            found = more

    def test_beside_the_rules(self):
        mixed = Random(2)
        universe = self.universe()
        seen = {True: 0, False: 0}
        rows = [(own,) for own in universe]
        rows += [tuple(mixed.sample(universe, mixed.randrange(2, 6))) for _ in range(250)]
        books = [own for own in universe if own[0] in ("right", "steady", "alike")]
        rows += [tuple(mixed.sample(books, mixed.randrange(2, 5))) for _ in range(250)]
        for told in rows:
            expected = self.all_that_comes(told)
            for claim in universe:
                seen[claim in expected] += 1
                self.assertIs(comes_of(claim, told), claim in expected, (claim, told))
        self.assertGreater(min(seen.values()), 1000)

    def test_of_nothing(self):
        for claim in self.universe():
            self.assertIs(comes_of(claim, ()), False)
            self.assertIs(comes_of(claim, (claim,)), True)

    def test_what_is_so_comes_of_what_is_so(self):
        mixed = Random(3)
        universe = [own for own in self.universe() if is_so(own)]
        others = [own for own in self.universe() if not is_so(own)]
        for _ in range(60):
            told = tuple(mixed.sample(universe, 6))
            for claim in others:
                self.assertIs(comes_of(claim, told), False)

    def test_lists_and_numbers(self):
        self.assertIs(comes_of(["class", ODD, 10 ** 30], [["class", list(ODD), 1]]), True)
        self.assertIs(comes_of(("hues", ODD, 0), (("hues", ODD, 50),)), True)
        self.assertIs(comes_of(("hues", ODD, 51), (("hues", ODD, 50),)), False)
        book = some_book(Random(4), 1)
        self.assertIs(comes_of(("alike", book, book), (("right", book, ODD),)), True)
        self.assertIs(comes_of(("alike", book, book), (("steady", book),)), False)
        self.assertIs(comes_of(("alike", book, book), (("alike", PARITY, book),)), True)
        self.assertIs(comes_of(("alike", book, book), (("alike", PARITY, OTHER),)), book in (PARITY, OTHER))


if __name__ == "__main__":
    unittest.main()
