"""[2], [23]: how each function may be called, what it is called with, and where it is defined."""

import inspect
import unittest

from calls import all_ways, function, interface, outcome, shape
from plain_books import LATEST, PARITY, SIDES, dull_book
from plain_groups import BIG, FIRST, ODD, SOME, SQUARE, THREE

ENDS_WITH = (((1, 2), (1, 2), (1, 2)), (1,))
DULL = dull_book(2, True)
# the first HUE BOOK printed
OF_ODD = ((False, True), (0, 1), (0, 0), (
    (((0, 0, (0, 1), (0, 1)), (1, 1, (0, 1), (0, 1))), ((1, 0, (0, 1), (0, 1)), (0, 1, (0, 1), (0, 1)))),
    (((1, 0, (0, 1), (0, 1)), (0, 1, (0, 1), (0, 1))), ((0, 0, (0, 1), (0, 1)), (1, 1, (0, 1), (0, 1)))),
))
CROWD = ((3, ((1, 1),)), 0, 2)
ONE_OR_NONE, TURNED = (((0, 1),), ((0, 0),)), (((0, 1), (1, 2)), ((1, 1), (0, 2)))
BLOCK, STRANGE = (2, ((0, 1), (1, 1))), (2, ((0, 3),))
UP = (3, ((2, 1), (0, 2), (0, 0), (2, 0)))
DEEP = (3, ((2, 1), (0, 2), (2, 0)))
LISTS = [3, [[2, 1]]]
# the SIGHT behind a letter at the first of two places, the LIST and the TABLE of PARITY
SEEN = (1, (1, 0), ((1, (0, 1)), (0, (1, 0))))
ROWS = ((0, (1, 0), ()), (1, (0, 1), ()))
TABLE = tuple([(f, (f, 1 - f), (h, x)) for f in (0, 1) for h in (0, 1) for x in ((0, 1), (1, 0))])
FLIPS = ((False, True), 0, (((0, 1), (1, 0)), ((1, 0), (0, 1))))
LAST_PUT = ((False, True), 0, (((0, 0), (1, 1)), ((0, 0), (1, 1))))
WIDE = ((False, True, True), 0, (((0, 1, 2), (1, 2, 1)), ((1, 1, 2), (2, 1, 1)), ((2, 2, 1), (1, 1, 2))))
OF_THREE_LETTERS = ((True,), 0, (((0,),) * 4,))
TAKEN = (2, ((0, 1), (1, 1), (1, 0)))
# takes the WORDS with 1 at the eighth place: 256 STATES from the other side
MANY_BACKWARDS = (tuple([(at + 1, at + 1) for at in range(7)]) + ((8, 9), (8, 8), (9, 9)), (8,))
OF_LINES = "book 1\nanswers no\nhues 0 1\nbegin 0 0" + "\nrow 0 0 left 0 1 right 0 1\nrow 0 1 left 0 1 right 0 1" * 2

CASES = {
    "is_word": [((1, 2),), ([1, 2],)],
    "is_text": [((0, 2),), ([0, 2],)],
    "is_history": [(UP,), (LISTS,), ((3, [(2, 1)]),)],
    "reads": [((0, 2, 1),), ((),)],
    "changed": [((0, 2, 1), (1, 3)), ((0, 2), (2, 1))],
    "text_behind": [(UP,), (DEEP,)],
    "texts_along": [(UP,), (DEEP,), ((1, ()),)],
    "plain": [((2, 1),), ((),)],
    "beside": [(UP, DEEP), (DEEP, (1, ()))],
    "puts_only": [(UP,), ((2, ((0, 1),)),)],
    "takes_back": [(UP,), (DEEP,)],
    "is_machine": [(FIRST,), ([[[0]], []],), (([(0,)], ()),), ((((0,),), []),)],
    "letters_in": [(FIRST,), (BIG,)],
    "state_behind": [(FIRST, (2, 1)), (FIRST, (1, 3)), (BIG, (1, 3, 2))],
    "takes": [(FIRST, (1, 2)), (FIRST, (5, 6)), (BIG, (1, 1, 1))],
    "least": [(FIRST,), (BIG,), ((BIG[0], ()),)],
    "are_alike": [(FIRST, THREE), (FIRST, FIRST), (FIRST, ODD)],
    "parting_word": [(FIRST, THREE), (FIRST, FIRST), (FIRST, ODD)],
    "both_of": [(FIRST, THREE), (BIG, BIG), (FIRST, ODD)],
    "other_way": [(FIRST,), (BIG,)],
    "doing": [(THREE, (1, 2, 2, 1)), (THREE, (1, 3)), (BIG, (1, 2, 3))],
    "product": [((1, 0, 2), (0, 2, 1))],
    "doings": [(THREE,), (SOME,), (BIG,)],
    "is_doing": [(THREE, (1, 0, 2)), (THREE, [1, 0, 2]), (BIG, None)],
    "word_for": [(THREE, (2, 1, 0)), (SOME, (1, 0)), (BIG, (1, 0))],
    "round_of": [((2, 0, 1),), ((1, 2, 2),)],
    "halting": [(ENDS_WITH,), (THREE,), (BIG,)],
    "is_group": [(THREE,), (ENDS_WITH,), (BIG,)],
    "commutes": [(THREE,), (SOME,), (BIG,)],
    "crossed": [(THREE,), (SOME,), (BIG,)],
    "surroundings": [(THREE, (1, 2, 0), (2, 0, 1)), (SOME, (1, 1), (1, 1)), (SOME, (1, 0), (1, 1)), (BIG, (), ())],
    "is_surroundings": [
        (SOME, (0, 1), (1, 1), ((), ())), (SOME, (0, 1), (1, 1), [[], []]), (SOME, (0, 1), (1, 1), ([], ())),
        (SOME, (0, 0), (1, 1), ((), ())), (BIG, (), (), None),
    ],
    "stuck": [(FIRST,), (THREE,), (BIG,)],
    "is_stuck": [(FIRST, ((2,), (), (1,))), (FIRST, [(2,), (), (1,)]), (FIRST, ((2,), [], (1,))), (BIG, None)],
    "opposite": [(SQUARE, (1, 2, 3, 0)), (SQUARE, (1, 0, 2, 3)), (SOME, (0, 1)), (BIG, ())],
    "exponent": [(SQUARE,), (THREE,), (SOME,), (BIG,)],
    "centre": [(SQUARE,), (THREE,), (SOME,), (BIG,)],
    "lots": [(SQUARE,), (THREE,), (SOME,), (BIG,)],
    "lot_of": [(SQUARE, (1, 2, 3, 0)), (SQUARE, ()), (SOME, (0, 1)), (BIG, ())],
    "is_central": [(SQUARE, (2, 3, 0, 1)), (SQUARE, (0, 3, 2, 1)), (SQUARE, ()), (SOME, (0, 1)), (BIG, ())],
    "rises": [(SQUARE,), (THREE,), (SOME,), (BIG,)],
    "class_of": [(SQUARE,), (THREE,), (SOME,), (BIG,)],
    "cross": [(SQUARE, (1, 2, 3, 0), (0, 3, 2, 1)), (THREE, (1, 0, 2), (0, 1)), (SOME, (0, 1), ()), (BIG, (), ())],
    "crosses": [(SQUARE,), (THREE,), (SOME,), (BIG,)],
    "twist": [(SQUARE, ((1,), (2,), (1,))), (SQUARE, ((1, 1), (4, 3))), (SQUARE, ((),)), (SOME, ((1,),)), (BIG, ((9,),))],
    "twists": [(SQUARE, 2), (THREE, 12), (SOME, 1), (BIG, 1)],
    "twisted": [(SQUARE, 2), (SQUARE, 3), (THREE, 4), (SOME, 1), (BIG, 1)],
    "is_twisted": [
        (SQUARE, 2, ((1, 1, 1), (2,))), (SQUARE, 2, [(1,), (2,)]), (SQUARE, 2, ([1], (2,))), (SOME, 1, None), (BIG, 1, 0),
    ],
    "is_book": [(SIDES,), (list(SIDES),), (SIDES[:3] + (list(SIDES[3]),),)],
    "is_stand": [(SIDES, (1, (2, 3, 2))), (SIDES, [1, (2,)]), (SIDES, (1, [2]))],
    "letters_of": [(SIDES,), (DULL,)],
    "hues_for": [(SIDES, 1), (SIDES, 2)],
    "begun": [(SIDES, 3), (DULL, 1)],
    "turned": [(SIDES, (1, (2, 3, 2)), (0, 0)), (SIDES, (1, (2, 3)), (2, 5)), (SIDES, (1, (2, 3)), (1, 2))],
    "stand_behind": [(SIDES, BLOCK), (SIDES, (4, ((2, 1), (0, 1), (2, 0)))), (SIDES, STRANGE)],
    "answer": [(SIDES, BLOCK), (PARITY, (1, ((0, 1),))), (SIDES, STRANGE)],
    "flags_along": [(SIDES, BLOCK), (SIDES, (1, ())), (SIDES, STRANGE)],
    "hues_along": [(SIDES, BLOCK, 1), (SIDES, BLOCK, 2), (SIDES, STRANGE, 9)],
    "text_of": [(SIDES, (1, (2, 3, 0))), (DULL, (0, (2, 1, 0)))],
    "stands_come": [(SIDES, 2), (PARITY, 12)],
    "history_to": [(SIDES, (0, (2, 3))), (SIDES, (1, (3,))), (SIDES, (0, (0, 0))), (PARITY, (1, (0,) * 12))],
    "goes_by": [(PARITY, "nobody"), (SIDES, "side"), (SIDES, "letters"), (SIDES, "flag")],
    "told_of": [(PARITY,), (SIDES,), (DULL,)],
    "is_parts": [(PARITY, ((0,), (0,))), (PARITY, [(0,), (0,)]), (PARITY, ([0], (0,))), (SIDES, ((0,), (1,)) * 2)],
    "told_for": [(ODD,), (SQUARE,), (THREE,), (SOME,), (BIG,)],
    "levels_for": [(ODD,), (SQUARE,), (THREE,), (SOME,), (BIG,)],
    "hue_book": [(ODD,), (SOME,), (BIG,)],
    "book_sizes": [(THREE,), (SOME,), (BIG,)],
    "flag_doings": [(THREE,), (SOME,), (BIG,)],
    "hue_pairs": [(THREE,), (SOME,), (BIG,)],
    "turn_by": [(THREE, (1, 0, 2), 0, 2), (THREE, (1, 0), 0, 2), (SOME, (), 0, 1), (BIG, (), 0, 1)],
    "stand_for": [(THREE, (1, 0, 2)), (ODD, ()), (ODD, (0, 2, 3)), (SOME, (9,)), (BIG, (9,))],
    "parts_for": [(SQUARE,), (ODD,), (THREE,), (SOME,), (BIG,)],
    "hues_of": [(SIDES,), (DULL,)],
    "fewest_hues": [(SQUARE,), (SOME,), (BIG,)],
    "has_enough": [(DULL, SQUARE), (PARITY, ODD), (PARITY, THREE), (PARITY, SOME), (dull_book(3, True), BIG)],
    "spread_for": [(THREE, 0), (SQUARE, 2), (THREE, 3), (SOME, 9), (BIG, 9)],
    "crowd_of": [(DULL, THREE, 0), (PARITY, ODD, 1), (DULL, THREE, 3), (DULL, ODD, 9), (PARITY, SOME, 9)],
    "is_crowd": [(DULL, THREE, CROWD), (DULL, THREE, list(CROWD)), (DULL, ODD, CROWD), (PARITY, SOME, CROWD)],
    "crowd_parting": [(DULL, THREE, CROWD), (DULL, THREE, CROWD[:2]), (DULL, ODD, CROWD), (PARITY, SOME, CROWD)],
    "is_parting": [(PARITY, ODD, BLOCK), (PARITY, SOME, BLOCK), (PARITY, SOME, list(BLOCK)), (PARITY, THREE, BLOCK)],
    "is_deal": [(TURNED[1],), (list(TURNED[1]),), (([0, 1],),)],
    "dealt": [(TURNED[1],), (((0, 0),),)],
    "like_deals": [(THREE, "letters"), (SQUARE, "side"), (SQUARE, "letters"), (SOME, "side"), (BIG, "side")],
    "is_like_deals": [
        (THREE, "letters", TURNED), (SQUARE, "letters", TURNED), (SQUARE, "side", ONE_OR_NONE),
        (SQUARE, "side", list(ONE_OR_NONE)), (SOME, "side", None), (BIG, "side", None),
    ],
    "slots": [(THREE, TURNED, (0, 1), (1, 2)), (SOME, TURNED, (0,), (0, 0)), (BIG, TURNED, (0,), (0, 0))],
    "gap_place": [(THREE, TURNED, (1, 2), 1), (SOME, TURNED, (0, 0), 0), (BIG, TURNED, (0, 0), 0)],
    "told_too_little": [(DULL, THREE), (PARITY, ODD), (PARITY, SOME), (dull_book(3, True), BIG)],
    "lap": [(PARITY, (1,), ((), ())), (SIDES, (1, 1), ((1,), (1,)))],
    "twins": [(PARITY, (1,), ((1,), ())), (SIDES, (1, 1), ((), (1,))), (PARITY, (1,) * 301, ((), ()))],
    "is_twins": [
        (PARITY, (1,), ((), ()), ((1, ()), BLOCK)), (PARITY, (1,), ((), ()), [(1, ()), BLOCK]),
        (PARITY, (1,), ((1,), (1,)), (BLOCK, (4, ((0, 1), (1, 1), (2, 1), (3, 1))))),
    ],
    "standing_machine": [(3, 2), (1, 1)],
    "stuck_parting": [(PARITY, SOME), (DULL, FIRST), (PARITY, ODD), (dull_book(3, True), BIG)],
    "whole_book": [(ODD,), (SOME,), (BIG,)],
    "whole_pairs": [(THREE,), (SOME,), (BIG,)],
    "whole_marks": [(THREE,), (SOME,), (BIG,)],
    "fewest_asked": [(THREE,), (SOME,), (BIG,)],
    "read_ahead": [(ODD, (1, (2, 1, 3, 2)), 3), (ODD, (1, (2,)), 1), (SOME, (0, (0,)), 0), (BIG, (0, (0,)), 0)],
    "read_between": [
        (ODD, (1, (2, 1, 3, 2)), 1, 4), (ODD, (1, (2,)), 1, 5), (ODD, (1, (2,)), 0, 5), (ODD, (0, (2, 3)), 1, 0),
        (SOME, (0, (0,)), 0, 0), (BIG, (0, (0,)), 0, 0),
    ],
    "takes_between": [
        (ODD, (1, (2, 1, 3, 2)), 1, 4), (ODD, (1, (2,)), 1, 5), (ODD, (1, (2,)), 0, 5), (ODD, (0, (2, 3)), 1, 0),
        (SOME, (0, (0,)), 0, 0), (BIG, (0, (0,)), 0, 0),
    ],
    "wrong_places": [
        (OF_ODD, ODD, (False, True), BLOCK), (OF_ODD, ODD, (False,), BLOCK), (OF_ODD, ODD, (False, True), STRANGE),
        (OF_ODD, THREE, (False, True), BLOCK), (OF_ODD, SOME, (False, True), BLOCK), (OF_ODD, BIG, (), BLOCK),
    ],
    "is_wrong": [
        (OF_ODD, ODD, (False, True), (BLOCK, 1)), (OF_ODD, ODD, (False, True), [BLOCK, 1]),
        (OF_ODD, ODD, (False,), None), (OF_ODD, THREE, (False, True), None), (OF_ODD, BIG, (), None),
    ],
    "wrong_one": [
        (OF_ODD, ODD, (False, True)), (DULL, THREE, (True,) * 3), (OF_ODD, ODD, ()), (dull_book(1, True), SOME, (True,) * 2),
        (dull_book(1, True), (((0,),), ()), (True,) * 2), (OF_ODD, BIG, ()),
    ],
    "swap_of": [(FIRST,), (THREE,), (ODD,), (BIG,)],
    "is_swap": [
        (FIRST, ((), 1, 2, (1,))), (FIRST, [(), 1, 2, (1,)]), (FIRST, ([], 1, 2, (1,))), (FIRST, ((1,), 1, 2, ())),
    ],
    "put_word": [(LISTS,), (DEEP,), (UP,)],
    "put_stack": [(LISTS,), (DEEP,), (UP,)],
    "put_flags": [(ODD,), (SOME,), (FIRST,), (BIG,)],
    "put_book": [(ODD,), (SOME,), (FIRST,), (BIG,)],
    "back_book": [(ODD,), (SOME,), (FIRST,), (BIG,)],
    "is_put_right": [(PARITY, ODD), (PARITY, SOME), (SIDES, ODD), (PARITY, FIRST), (DULL, FIRST), (dull_book(3, True), BIG)],
    "put_parting": [(PARITY, SOME), (DULL, FIRST), (PARITY, ODD), (SIDES, ODD), (PARITY, FIRST), (dull_book(3, True), BIG)],
    "sight_behind": [(PARITY, ODD, BLOCK), (PARITY, ODD, STRANGE), (PARITY, SOME, BLOCK), (DULL, THREE, UP)],
    "sight_turned": [(PARITY, ODD, SEEN, 0, 0), (PARITY, ODD, SEEN, 2, 1), (SIDES, ODD, SEEN, 0, 0), (PARITY, SOME, SEEN, 0, 0)],
    "lies_in": [(SEEN, SEEN), (SEEN[:2] + (SEEN[2][1:],), SEEN), (SEEN, SEEN[:2] + ((),))],
    "parting": [(PARITY, ODD), (dull_book(1, True), ODD), (DULL, SQUARE), (PARITY, SOME), (dull_book(3, True), BIG)],
    "is_right": [(PARITY, ODD), (dull_book(1, True), ODD), (DULL, SQUARE), (PARITY, SOME), (dull_book(3, True), BIG)],
    "least_rows": [(PARITY, ODD), (SIDES, ODD), (dull_book(1, True), ODD), (DULL, SQUARE), (PARITY, SOME)],
    "is_rows": [(PARITY, ODD, ROWS), (PARITY, ODD, list(ROWS)), (PARITY, ODD, ([0, (1, 0), ()],)), (PARITY, SOME, ())],
    "table": [(PARITY, ODD), (SIDES, ODD), (dull_book(1, True), ODD), (DULL, SQUARE), (PARITY, SOME)],
    "is_table": [(PARITY, ODD, TABLE), (PARITY, ODD, list(TABLE)), (PARITY, ODD, ()), (PARITY, SOME, ())],
    "own_machine": [(PARITY,), (LATEST,), (SIDES,), (DULL,)],
    "is_steady": [(PARITY,), (LATEST,), (SIDES,)],
    "jar": [(LATEST,), (PARITY,), (SIDES,)],
    "is_jar": [(LATEST, (TAKEN, (1, ((0, 1),)))), (LATEST, [TAKEN, (1, ((0, 1),))]), (PARITY, (TAKEN, TAKEN))],
    "are_books_alike": [(PARITY, LATEST), (PARITY, SIDES), (PARITY, DULL)],
    "books_parting": [(PARITY, LATEST), (PARITY, SIDES), (PARITY, DULL)],
    "is_books_parting": [
        (PARITY, LATEST, BLOCK), (PARITY, LATEST, list(BLOCK)), (PARITY, SIDES, BLOCK), (PARITY, DULL, BLOCK),
    ],
    "is_pairbook": [(FLIPS,), (list(FLIPS),), (FLIPS[:2] + ([((0, 1), (1, 0)), ((1, 0), (0, 1))],),)],
    "tint_between": [
        (FLIPS, BLOCK, None, None), (FLIPS, BLOCK, 0, None), (FLIPS, BLOCK, 0, 1), (FLIPS, BLOCK, 2, 9),
        (FLIPS, BLOCK, 1, 2), (FLIPS, BLOCK, 1, 0),
    ],
    "pair_answer": [(FLIPS, BLOCK), (LAST_PUT, BLOCK)],
    "tints_that_come": [(FLIPS,), (WIDE,)],
    "comes": [(FLIPS, SOME), (WIDE, SOME), (FLIPS, THREE), (OF_THREE_LETTERS, BIG)],
    "is_pair_right": [(FLIPS, SOME), (WIDE, SOME), (FLIPS, THREE), (OF_THREE_LETTERS, BIG)],
    "pair_parting": [(FLIPS, SOME), (WIDE, SOME), (FLIPS, THREE), (OF_THREE_LETTERS, BIG)],
    "is_pair_parting": [(FLIPS, SOME, BLOCK), (FLIPS, SOME, list(BLOCK)), (FLIPS, THREE, BLOCK), (OF_THREE_LETTERS, BIG, UP)],
    "tint_book": [(SOME,), (THREE,), (BIG,)],
    "fewest_tints": [(SOME,), (THREE,), (BIG,)],
    "crowded_tint": [(FLIPS, SOME), (WIDE, SOME), (FLIPS, THREE), (OF_THREE_LETTERS, BIG)],
    "folded_tints": [(WIDE,), (FLIPS,), (LAST_PUT,)],
    "pairs_parted": [(FLIPS, WIDE), (WIDE, WIDE), (FLIPS, OF_THREE_LETTERS)],
    "pair_machine": [(WIDE,), (FLIPS,), (LAST_PUT,)],
    "unsteady_pair": [(LAST_PUT,), (FLIPS,)],
    "mirrored_history": [(UP,), (LISTS,)],
    "mirrored": [(PARITY,), (SIDES,)],
    "mirrored_machine": [(FIRST,), (ODD,), (MANY_BACKWARDS,)],
    "renamed": [(SIDES, (1, 0), (1, 0, 3, 2)), (SIDES, (1, 0), (0, 1)), (SIDES, (1,), (0,))],
    "relettered": [(FIRST, (2, 1)), (FIRST, (1,))],
    "relettered_book": [(DULL, (2, 1)), (DULL, (0, 1))],
    "is_folding": [(SIDES, ((0, 1), (0, 1, 2, 3))), (SIDES, [(0, 1), (0, 1, 2, 3)]), (SIDES, ([0, 1], (0, 1, 2, 3)))],
    "folding": [(SIDES,), (DULL,)],
    "folded": [(SIDES, ((0, 1), (0, 1, 2, 3))), (SIDES, ((0, 1), (0, 0, 1, 1))), (DULL, ((0,), (0, 1, 2)))],
    "paired": [(PARITY, SIDES, "and"), (PARITY, SIDES, "or"), (PARITY, SIDES, "unlike"), (PARITY, DULL, "or")],
    "machine_text": [(FIRST,), (ODD,)],
    "history_text": [(UP,), (LISTS,)],
    "book_text": [(SIDES,), (DULL,)],
    "pairbook_text": [(WIDE,), (OF_THREE_LETTERS,)],
    "machine_read": [("machine 2\nstate 0 0\nends",), ("machine 1\nstate 1\nends",), ("",)],
    "history_read": [("history 2\nchange 1 1",), ("history 2\nchange 2 1",), ("history 0",)],
    "book_read": [(OF_LINES,), (OF_LINES.replace("begin 0 0", "begin 0 1"),), (OF_LINES + "\n",)],
    "pairbook_read": [("pairbook 1\nanswers no\nbegin 0\nrow 0\nrow 0",), ("pairbook 1\nanswers no\nbegin 0\nrow 0",)],
    "is_claim": [(("group", SOME),), (["group", SOME],), (("class", SOME, 1),)],
    "is_so": [(("group", SOME),), (("right", PARITY, ODD),), (("class", SOME, 1),), (("group", BIG),)],
    "paper": [
        (("group", SQUARE),), (("group", SOME),), (("class", SQUARE, 1),), (("hues", SQUARE, 3),), (("hues", SQUARE, 5),),
        (("right", PARITY, ODD),), (("steady", LATEST),), (("alike", PARITY, LATEST),), (("hues", SOME, 1),), (("group", BIG),),
    ],
    "is_paper_for": [
        (("class", SQUARE, 2), ()), (("class", SQUARE, 2), []), (("right", PARITY, ODD), ROWS), (("class", SOME, 1), ()),
        (("group", BIG), ()), (("hues", SQUARE, 0), ()),
    ],
    "is_paper_against": [
        (("class", SQUARE, 1), ((1,), (2,))), (("class", SQUARE, 1), ([1], [2])), (("steady", LATEST), (TAKEN, BLOCK)),
        (("class", SOME, 1), ()), (("group", BIG), ()),
    ],
    "verdicts": [
        ((("group", SOME), ("steady", PARITY), ("steady", PARITY)), (((1,), (), ()), (), [])), ((), ()),
        ((("group", SOME),), ()), ((("group", BIG),), (None,)),
    ],
    "comes_of": [
        (("steady", PARITY), (("right", PARITY, ODD),)), (("alike", PARITY, SIDES), (("right", PARITY, ODD),)),
        (("group", ODD), ()), (("class", SOME, 1), ()),
    ],
    "first_false": [((("group", ODD), ("group", SOME)),), ((("group", ODD),),), ((),), ((("group", BIG),),), ((None,),)],
    "desk": [("put 0 1\ntext\nundo\nundo",), ("",), ("flag\n",), ("history\n x",)],
    "is_request": [("put 0 12",), ("put 0",), (["flag"],)],
    "is_unsteady_pair": [(LAST_PUT, ((1, ((0, 1),)), (2, ((0, 1), (1, 0))))), (FLIPS, (BLOCK, BLOCK)), (FLIPS, [BLOCK, BLOCK])],
}

RETURN_LISTS = ["desk", "rises", "stands_come", "texts_along", "verdicts"]


class Calls(unittest.TestCase):
    def test_there_is_a_case_for_each_function(self):
        self.assertEqual(sorted(CASES), sorted([name for _, name, _ in interface()]))

    def test_where_it_is_defined(self):
        for file, name, arguments in interface():
            with self.subTest(name):
                own = function(file, name)
                self.assertEqual(own.__module__, "placehues." + file)
                parameters = inspect.signature(own).parameters.values()
                self.assertEqual([one.name for one in parameters], arguments)
                for one in parameters:
                    self.assertIs(one.kind, inspect.Parameter.POSITIONAL_OR_KEYWORD)
                    self.assertIs(one.default, inspect.Parameter.empty)

    def test_all_ways_give_one_result(self):
        for file, name, arguments in interface():
            for values in CASES[name]:
                with self.subTest(name, values=values):
                    own = function(file, name)
                    shapes = all_ways(own, arguments, values)
                    expected = shape(outcome(lambda: own(*values)))
                    self.assertEqual(sorted(set(shapes)), [expected])

    def test_which_functions_return_lists(self):
        for file, name, _ in interface():
            for values in CASES[name]:
                got = outcome(lambda: function(file, name)(*values))
                if got[0] == "returned":
                    self.assertEqual("[" in shape(got[1]), name in RETURN_LISTS)
                    self.assertIs(isinstance(got[1], list), name in RETURN_LISTS)


if __name__ == "__main__":
    unittest.main()
