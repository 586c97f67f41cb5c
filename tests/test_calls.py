"""[2], [23]: how each function may be called, what it is called with, and where it is defined."""

import inspect
import unittest

from calls import all_ways, function, interface, outcome, shape

ODD, SOME, FIRST = (((1,), (0,)), (1,)), (((1,), (1,)), (1,)), (((1, 2), (1, 1), (2, 2)), (1,))
THREE = (((1, 0), (0, 2), (2, 1)), (0,))
LATEST = (((1, 2), (1, 2), (1, 2)), (1,))
BIG = (tuple([((at + 1) % 12, {0: 1, 1: 0}.get(at, at), max(at, 1)) for at in range(12)]), (0, 3))
UP = (3, ((2, 1), (0, 2), (0, 0), (2, 0)))
DEEP = (3, ((2, 1), (0, 2), (2, 0)))
LISTS = [3, [[2, 1]]]

CASES = {
    "is_word": [((1, 2),), ([1, 2],)],
    "is_text": [((0, 2),), ([0, 2],)],
    "is_history": [(UP,), (LISTS,), ((3, [(2, 1)]),)],
    "reads": [((0, 2, 1),), ((),)],
    "changed": [((0, 2, 1), (1, 3)), ((0, 2), (2, 1))],
    "text_behind": [(UP,), (DEEP,)],
    "texts_along": [(UP,), (DEEP,), ((1, ()),)],
    "plain": [((2, 1),), ((),)],
    "beside": [(UP, DEEP), (DEEP, (1, ()))],
    "puts_only": [(UP,), ((2, ((0, 1),)),)],
    "takes_back": [(UP,), (DEEP,)],
    "is_machine": [(FIRST,), ([[[0]], []],), (([(0,)], ()),), ((((0,),), []),)],
    "letters_in": [(FIRST,), (BIG,)],
    "state_behind": [(FIRST, (2, 1)), (FIRST, (1, 3)), (BIG, (1, 3, 2))],
    "takes": [(FIRST, (1, 2)), (FIRST, (5, 6)), (BIG, (1, 1, 1))],
    "least": [(FIRST,), (BIG,), ((BIG[0], ()),)],
    "are_alike": [(FIRST, THREE), (FIRST, FIRST), (FIRST, ODD)],
    "parting_word": [(FIRST, THREE), (FIRST, FIRST), (FIRST, ODD)],
    "both_of": [(FIRST, THREE), (BIG, BIG), (FIRST, ODD)],
    "other_way": [(FIRST,), (BIG,)],
    "doing": [(THREE, (1, 2, 2, 1)), (THREE, (1, 3)), (BIG, (1, 2, 3))],
    "product": [((1, 0, 2), (0, 2, 1))],
    "doings": [(THREE,), (SOME,), (BIG,)],
    "is_doing": [(THREE, (1, 0, 2)), (THREE, [1, 0, 2]), (BIG, None)],
    "word_for": [(THREE, (2, 1, 0)), (SOME, (1, 0)), (BIG, (1, 0))],
    "round_of": [((2, 0, 1),), ((1, 2, 2),)],
    "halting": [(LATEST,), (THREE,), (BIG,)],
    "is_group": [(THREE,), (LATEST,), (BIG,)],
    "commutes": [(THREE,), (SOME,), (BIG,)],
    "crossed": [(THREE,), (SOME,), (BIG,)],
    "surroundings": [(THREE, (1, 2, 0), (2, 0, 1)), (SOME, (1, 1), (1, 1)), (SOME, (1, 0), (1, 1)), (BIG, (), ())],
    "is_surroundings": [
        (SOME, (0, 1), (1, 1), ((), ())), (SOME, (0, 1), (1, 1), [[], []]), (SOME, (0, 1), (1, 1), ([], ())),
        (SOME, (0, 0), (1, 1), ((), ())), (BIG, (), (), None),
    ],
    "stuck": [(FIRST,), (THREE,), (BIG,)],
    "is_stuck": [(FIRST, ((2,), (), (1,))), (FIRST, [(2,), (), (1,)]), (FIRST, ((2,), [], (1,))), (BIG, None)],
}


class Calls(unittest.TestCase):
    def test_there_is_a_case_for_each_function(self):
        self.assertEqual(sorted(CASES), sorted([name for _, name, _ in interface()]))

    def test_where_it_is_defined(self):
        for file, name, arguments in interface():
            with self.subTest(name):
                own = function(file, name)
                self.assertEqual(own.__module__, "placehues." + file)
                parameters = inspect.signature(own).parameters.values()
                self.assertEqual([one.name for one in parameters], arguments)
                for one in parameters:
                    self.assertIs(one.kind, inspect.Parameter.POSITIONAL_OR_KEYWORD)
                    self.assertIs(one.default, inspect.Parameter.empty)

    def test_all_ways_give_one_result(self):
        for file, name, arguments in interface():
            for values in CASES[name]:
                with self.subTest(name, values=values):
                    own = function(file, name)
                    shapes = all_ways(own, arguments, values)
                    expected = shape(outcome(lambda: own(*values)))
                    self.assertEqual(sorted(set(shapes)), [expected])

    def test_only_texts_along_returns_a_list(self):
        for file, name, _ in interface():
            for values in CASES[name]:
                got = outcome(lambda: function(file, name)(*values))
                if got[0] == "returned":
                    self.assertEqual("[" in shape(got[1]), name == "texts_along")


if __name__ == "__main__":
    unittest.main()
